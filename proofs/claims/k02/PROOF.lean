import PyProof.Rows.All
import Wide.All
import OpenK.AllK
import Wide.FinOn
import HandS.ForExc
import HandS.EndBits
import HandS.Wide
import HandS.TupLe
import PyProof.StrBlock2
import HandS.Codes
import HandS.Comp
import HandS.TupAny
import HandS.Text
import HandS.Strs
import HandS.Walk
import PySem.Challenge.RW_asforetold_k02_paths_written
set_option Elab.async false
set_option linter.all false
set_option maxRecDepth 100000
set_option maxHeartbeats 2000000
namespace LB
open PySem PySem.Spec PyProof.Rows L2
/-! ### defs that are called where no repr is under way -/
def Free (A : Around) : Prop := A.guards = some []
/-- as a def's promise, but told of calls from places at which no repr is under way alone -/
structure FnG (P : Program) (w : World) (K : PySem.W.Frag) (mg : Str → Option Value) (base : Heap) (CX : CXT) (k : Nat) (f : Addr) (fd : FuncData) (ps : List Str) (sp : Sp) : Prop where
  many : ∀ xs H Q E, sp xs H Q E → xs.length = ps.length
  goes : ∀ (A : Around) (fr : List Env) (s : Shared) (H : Hp) (a : Args) (us : List Value) (xs : List V) (Q : VK) (E : XK), Free A → Room k A → Env0 P w K mg base A fr s H →
    BindsTo s fd a (ps.zip us) → Vals xs us → sp xs H Q E → codeAny (model P w) A (.call (.ref f) a) (CR CX fr P w H s Q E) s
theorem FnG.ofOk {P : Program} {w : World} {K : PySem.W.Frag} {mg : Str → Option Value} {base : Heap} {CX : CXT} {k : Nat} {f : Addr} {fd : FuncData} {ps : List Str} {sp : Sp} (F : FnOk P w K mg base CX k f fd ps sp) : FnG P w K mg base CX k f fd ps sp :=
  ⟨F.len, fun A fr s H a us xs Q E _ => F.run A fr s H a us xs Q E⟩
theorem FnG.up {P : Program} {w : World} {K : PySem.W.Frag} {mg : Str → Option Value} {base : Heap} {CX : CXT} {j k : Nat} {f : Addr} {fd : FuncData} {ps : List Str} {sp : Sp} (F : FnG P w K mg base CX j f fd ps sp) (h : j ≤ k) : FnG P w K mg base CX k f fd ps sp :=
  ⟨F.many, fun A fr s H a us xs Q E g r => F.goes A fr s H a us xs Q E g (r.mono h)⟩
theorem Free.deeper {A : Around} (g : Free A) (env : Env) : Free (A.deeper env) := by
  first
    | exact g
    | (unfold Free at *; simpa [Around.deeper] using g)
/-- by the body, as fn_of -/
theorem FnG.by_body {CX : CXT} {P : Program} {w : World} {K : PySem.W.Frag} {mg : Str → Option Value} {base : Heap} {k : Nat} {f : Addr} {x q : Str} {pa : Arguments} {bd : List Stmt} {sc : Scope} {v1 v2 v3 v4 v5 v6 v7 : Value} {a1 a2 : Option Addr}
    {sl : Array (Option Value)} {N ps : List Str} {sp : Sp} (at_ : K.lookup f = some ⟨v7, a2, .func (PySem.W.fnOf x q pa bd sc v1 v2 v3 v4 a1 v5 v6), sl⟩) (code : PySem.W.codeIn K v5 q = true) (S : FnScope N ps sc)
    (many : ∀ xs H Q E, sp xs H Q E → xs.length = ps.length)
    (body : ∀ (A : Around) (fr : List Env) (s : Shared) (H : Hp) (xs : List V) (Q : VK) (E : XK), Free (A.deeper (envOfC q sc s.heap.objs.size f v5)) → Room k (A.deeper (envOfC q sc s.heap.objs.size f v5)) → sp xs H Q E →
      ∃ t, PSs (cxOf CX P w K mg base N q sc f v5 A fr s H E) bd t ∧ t { nx := fun _ H' => Q .non H', rt := Q } (start N xs) H) :
    FnG P w K mg base CX (k + 1) f (PySem.W.fnOf x q pa bd sc v1 v2 v3 v4 a1 v5 v6) ps sp := by
  constructor
  · exact many
  intro A fr s H a us xs Q E g room e0 bound vals want
  have kin : K.In s.heap := e0.mod.kin.keeps fun b o z => (e0.bs b o z).1
  have nolim : s.heap.NoLimit := e0.mod.nolimit.keeps fun b o z => (e0.bs b o z).1
  have len := many _ _ _ _ want
  obtain ⟨t, derived, reads⟩ := body A fr s H xs Q E (g.deeper _) (room.deeper _) want
  have kinds : ∀ y ∈ ps.zip us, sc.names.lookup y.1 = some .local ∨ (sc.names.lookup y.1 = some .cell ∧ ((cellsFrom (s.heap.objs.size + 1) sc.names []).lookup y.1).isSome = true) := by
    rintro ⟨n, v⟩ hy
    cases S.par n (List.of_mem_zip hy).1 with
    | inl z => exact .inl z
    | inr z => exact .inr ⟨z, PySem.W.cellsFrom_some _ _ _ (.inl z)⟩
  refine codeAny_call_function room.depth (kin _ _ at_) rfl S.co S.gen rfl (PySem.W.codeRec_of kin code) (bound _ _ _ _ ?_)
  refine wpAny_newFunctionEnv_cells S.kind kinds ?_
  intro env he s1 into
  subst he
  refine ⟨nolim.keeps into.toInCall.keep, codeAny_func ?_⟩
  have I := inv_start (CX := CX) (E := E) S room.hd e0 len vals into
  refine wpAny_mono (derived.run [] s1 (start N xs) H _ I reads) ?_ (fun _ _ z => z)
  intro fl s2 z
  cases fl with
  | next =>
    obtain ⟨σ2, H2, J, q⟩ := z
    exact ⟨.non, H2, J.os, J.bare, J.base, J.hok, rfl, q⟩
  | ret u =>
    obtain ⟨v, σ2, H2, J, r, q⟩ := z
    exact ⟨v, H2, J.os, J.bare, J.base, J.hok, r, q⟩
  | brk =>
    obtain ⟨_, _, _, q⟩ := z
    exact q.elim
  | cont =>
    obtain ⟨_, _, _, q⟩ := z
    exact q.elim
theorem FnG.of_fun {P : Program} {w : World} {K : PySem.W.Frag} {mg : Str → Option Value} {base : Heap} {x q : Str} {st : Stmt} {f : Addr} {fd : FuncData} {N ps : List Str} {k : Nat} {sp : Sp} (F : Fun K x q st f fd) (S : FnScope N ps (defScope st)) (many : ∀ xs H Q E, sp xs H Q E → xs.length = ps.length)
    (body : ∀ (cdv : Value) (A : Around) (fr : List Env) (s : Shared) (H : Hp) (xs : List V) (Q : VK) (E : XK), Free (A.deeper (envOfC q (defScope st) s.heap.objs.size f cdv)) → Room k (A.deeper (envOfC q (defScope st) s.heap.objs.size f cdv)) → sp xs H Q E →
      ∃ t, PSs (cxOf CX0 P w K mg base N q (defScope st) f cdv A fr s H E).nox (defBody st) t ∧ t { nx := fun _ H' => Q .non H', rt := Q } (start N xs) H) : FnG P w K mg base CX0 (k + 1) f fd ps sp := by
  obtain ⟨v7, a2, v2, v3, v4, a1, v5, v6, sl, rfl, at_, code⟩ := F.ex
  refine FnG.by_body at_ code S many ?_
  intro A fr s H xs Q E g r want
  obtain ⟨t, h, q⟩ := body v5 A fr s H xs Q E g r want
  exact ⟨t, h.nox, q⟩
section
variable {X : Cx} {CX : CXT} {k : Nat} {f : Addr} {fd : FuncData} {ps : List Str} {sp : Sp} {dvs : List V} {ds : List Value} {E : XK} {x : Str} {p pos : Pos} {e : Expr} {es : List Expr} {t : TA}
/-- f(e, ..), f such a def -/
theorem pe_callF (g : Free X.A) (F : FnG X.prog X.w X.K X.mg X.base CX k f fd ps sp) (hr : Room k X.A) (hg : Gl X x) (hm : X.mg x = some (.ref f)) (hk : PySem.W.keepIn X.K (.ref f) = true) (hb : Binds X.K fd ps ds) (hd : Vals dvs ds) (hx : Passes CX X E)
    (ha : PA X (e :: es) t) (hdb : (x == ("__debug__" : Str)) = false := by decide) (he : starEach (e :: es) X.env = (false, eval e X.env) :: starEach es X.env := by rfl) (hpl : (backTo pos (starEach es X.env)).any (·.1) = false := by rfl) :
    PE X (.Call (.Name x p) (e :: es) [] pos) (tCall sp dvs E t) := by
  constructor
  intro pins s σ H Q I h
  refine wpAny_Call_Name_kw (ld_glob I hg hm ?_ hdb)
  refine PySem.W.callWith_K (h₀ := X.base) I.ok.mod.kin hk (thn (ha.run pos pins s σ H _ I h) ?_) he hpl
  rintro us s1 ⟨xs, H1, I1, r, q⟩
  refine ⟨I1.kIn, ?_⟩
  have r2 : Vals (xs ++ dvs) (us ++ ds) := r.append hd
  have len : (us ++ ds).length = ps.length := r2.length.symm.trans (F.many _ _ _ _ q)
  refine wpAny_call (codeAny_mono (F.goes X.A X.stack s1 H1 ⟨us, []⟩ (us ++ ds) (xs ++ dvs) Q E g hr I1.env0 (hb s1 us I1.kIn len) r2 q) ?_)
  intro res s2 z
  match res, z with
  | .error err, z => exact hx pins σ H1 s1 err s2 I1 z
  | .ok (.ret u), z => exact I1.after z
  | .ok .next, z => exact False.elim z
  | .ok .brk, z => exact False.elim z
  | .ok .cont, z => exact False.elim z
end
end LB

set_option maxRecDepth 100000
set_option maxHeartbeats 2000000
namespace LB
open PySem PySem.Spec PyProof.Rows L2
/-! ### repr of data -/
/-- data whose repr is short enough to be told -/
structure Short (d : PyData) : Prop where
  sh : d.showable = true
  nd : d.hasDict = false
  dp : d.depth ≤ 50
  len : d.shown.length ≤ sizeLine
def rRepr (K : PySem.W.Frag) : List V → Hp → VK → Prop := fun xs H Q => ∃ v d, xs = [v] ∧ Dp K H v d ∧ Short d ∧ Q (.str d.shown) H
theorem call_repr {X : Cx} (g : Free X.A) (hu : X.A.units + 64 < cLine) : CallR X (.builtin "repr") (rRepr X.K) := by
  intro pins s σ H xs us Q I r h
  obtain ⟨v, d, rfl, hd, S, q⟩ := h
  obtain ⟨u, rfl, ru⟩ := vals1 r
  obtain ⟨as, rd⟩ := Dp.reads I d v u hd ru
  have fin : ∀ (a : Addr), Reads s.heap (.ref a) d as → wpAny (model X.prog X.w) X.A (call (.builtin "repr") [.ref a]) (EP X pins σ Q) X.xe s := fun a ra => by
    have dp := S.dp
    refine repr_of_reads' ra S.sh (PyData.noDict_hsm S.nd) g (by omega) (fun _ _ z => z) ?_ S.len
    intro h' t tk kept
    exact ⟨.str d.shown, H, I.kept kept, ⟨_, rfl⟩, q⟩
  cases rd with
  | none => exact PySem.P.repr_of_none ⟨.str _, H, I.tok _, ⟨_, rfl⟩, q⟩
  | bool b => exact PySem.P.repr_of_bool ⟨.str _, H, I.tok _, ⟨_, rfl⟩, q⟩
  | int i t => exact PySem.P.repr_of_int (by have z := S.sh; simpa [PyData.showable] using z) ⟨.str _, H, I.tok _, ⟨_, rfl⟩, q⟩
  | str x t => exact PySem.P.repr_of_str ⟨.str _, H, I.tok _, ⟨_, rfl⟩, q⟩ S.len
  | list h1 h2 h3 h4 => exact fin _ (.list h1 h2 h3 h4)
  | tuple h1 h2 h3 h4 => exact fin _ (.tuple h1 h2 h3 h4)
  | dict h1 h2 h3 h4 h5 => exact absurd S.nd (by simp [PyData.hasDict])
/-- small ints, texts of up to a million signs in all -/
theorem Short.of {d : PyData} (h1 : d.showable = true) (h2 : d.hasDict = false) (h3 : d.depth ≤ 50) (h4 : d.leavesShort 13 = true) (h5 : d.bulk ≤ 2 ^ 20) : Short d :=
  ⟨h1, h2, h3, PyData.shown_fits_bulk (by decide) (by decide) h4 h5⟩
theorem log_small {i : Int} (h : i.natAbs < 10 ^ 12) : i.natAbs.log2 < 1920 := by
  by_cases z : i.natAbs = 0
  · rw [z]; decide
  · have := (Nat.log2_lt z (k := 1920)).mpr (Nat.lt_trans h (by decide))
    exact this
theorem leaf_small {i : Int} (h : i.natAbs < 10 ^ 12) : (PyData.shown (.int i)).length ≤ 13 := PyData.shown_int_le (by simpa using h)
/-- an int below 10 ^ 12 in size -/
def Sm (i : Int) : Prop := i.natAbs < 10 ^ 12
theorem Sm.of {i : Int} (h1 : -1000000000 ≤ i) (h2 : i ≤ 1000000000) : Sm i := by
  have e : (10 : Nat) ^ 12 = 1000000000000 := by decide
  unfold Sm
  rw [e]
  omega
/-! ### two values of one repr -/
def spAlike (K : PySem.W.Frag) : Sp := fun vs H Q _ => ∃ x y d, vs = [x, y] ∧ Dp K H x d ∧ Dp K H y d ∧ Short d ∧ Q (.bl true) H
end LB

set_option maxRecDepth 100000
set_option maxHeartbeats 2000000
namespace LB
open PySem PySem.Spec PyProof.Rows L2
/-! ### the end of a law's row whose def is told of free places alone -/
section
variable {P : Program} {w : World} {K : PySem.W.Frag} {mg mb : Str → Option Value} {CX : CXT} {k : Nat} {fa a : Addr} {fd : FuncData} {x : Str} {sp : Sp} {z : Shared} {us : List Value} {ns : List Int}
/-- what law answers, from a heap H that tracks the script at most -/
theorem answer_from {H : Hp} (g : z.gens = #[]) (only : Only H) (alone : ∀ b, H b ≠ none → b = a) (isL : ∃ d n, (z.heap.get? a).map Obj.data = some (.seq d n)) (kin : K.In z.heap) (apart : H a ≠ none → K.lookup a = none)
    (ng : z.heap.Ns mainGlobals mg) (nb : z.heap.Ns builtinsNs mb) (boot : ∀ y : Str, y ≠ "__name__" → mb y = bootBuiltins y) (nolim : z.heap.NoLimit) (hok : HOk P w H z.heap) (room : Room k callerA)
    (F : ∀ b : Heap, K.In b → b.Ns mainGlobals mg → FnG P w K mg b CX k fa fd [x] sp) (binds : ∀ (s : Shared) (u : Value), BindsTo s fd ⟨[u], []⟩ [(x, u)])
    (want : sp [.ref a] H (fun v _ => v = .bl true) fun _ _ _ => False) (calm : ∀ e s', CX [] H z (fun _ _ _ => False) e s' → False) :
    codeAny (model P w) callerA (.call (.ref fa) ⟨[.ref a], []⟩) (fun r s' => r = .ok (.ret (.bool true)) ∧ OldK z.heap s'.heap ∧ s'.os = z.os ∧ AllBare s'.gens) z := by
  have dictFree : ∀ {b : Addr} {o : Obj} {es : Array DictEntry} {n : Nat}, z.heap.get? b = some o → o.data = .dict es n → H b = none := by
    intro b o es n at_ da
    by_cases q : H b = none
    · exact q
    · have eb := alone b q
      subst eb
      obtain ⟨d, m, e⟩ := isL
      rw [at_] at e
      have e2 := Option.some.inj e
      rw [da] at e2
      cases e2
  have moved : ∀ {b : Addr} {m : Str → Option Value}, z.heap.Ns b m → (hidT z.heap H).Ns b m := by
    rintro b m ⟨o, es, n, at_, da, r⟩
    exact ⟨o, es, n, hidT_get at_ (dictFree at_ da), da, r⟩
  have kin2 : K.In (hidT z.heap H) := by
    intro b o at_
    refine hidT_get (kin b o at_) ?_
    by_cases q : H b = none
    · exact q
    · have eb := alone b q
      subst eb
      rw [apart q] at at_
      cases at_
  obtain ⟨mc, c1, c2⟩ := nolim
  have e0 : Env0 P w K mg (hidT z.heap H) callerA [] z H :=
    { frames := rfl, mod := ⟨kin2, moved ng, ⟨mb, moved nb, boot⟩, ⟨mc, moved c1, c2⟩⟩, bs := fun _ _ at_ => of_hidT at_, bsz := Nat.le_of_eq (hidT_size _ _), funs := trivial,
      frf := fun b hb => absurd (show b ∈ ([] : List Addr) from hb) List.not_mem_nil, hok := hok, bare := .of_eq g }
  refine codeAny_mono ((F _ kin2 (moved ng)).goes callerA [] z H ⟨[.ref a], []⟩ [.ref a] [.ref a] _ _ rfl room e0 (binds z (.ref a)) (.cons rfl .nil) want) ?_
  intro r s' out
  match r, out with
  | .error e, out => exact (calm e s' out).elim
  | .ok .next, out => exact False.elim out
  | .ok .brk, out => exact False.elim out
  | .ok .cont, out => exact False.elim out
  | .ok (.ret u), out =>
    obtain ⟨v, H', os, bare, un, hok', r', q⟩ := out
    have q' : v = .bl true := q
    subst q'
    have eu : u = Value.bool true := r'
    subst eu
    refine ⟨rfl, OldK.of_keep ?_, os, bare⟩
    intro b o at_
    by_cases q : H b = none
    · exact un.keep b o at_ q (fun y => absurd (show b ∈ ([] : List Addr) from y) List.not_mem_nil) List.not_mem_nil
    · rcases only b with y | ⟨ob, xs, y⟩
      · exact absurd y q
      · obtain ⟨e1, _⟩ := hok b _ y
        obtain ⟨e2, _⟩ := hok' b _ (un.frzs b ob _ y)
        rw [at_] at e1
        cases e1
        exact e2
end
theorem walk_free {l : PySem.W.OpenLaw} {n k : Nat} {q : Program} {loose : List Str} {XP : (Str → Option Value) → Heap → Prop} {YP : World → Heap → Prop} {d : DefRec} {K : Params → PySem.W.Frag} {CX : CXT} {sp : PySem.W.Frag → Sp} {x : Str}
    (most : l.most = some n) (small : n ≤ sizeLine) (plain : d.params.defaults = []) (room : Room k callerA) (hY : ∀ (w : World) (h : Heap), YP w h → (K w.params).In h)
    (F : ∀ (w : World) (mg : Str → Option Value) (fa : Addr) (h : Heap), (K w.params).In h → h.Ns mainGlobals mg → mg d.name = some (.ref fa) →
      ∃ fd : FuncData, (∀ (s : Shared) (u : Value), BindsTo s fd ⟨[u], []⟩ [(x, u)]) ∧ ∀ base : Heap, (K w.params).In base → base.Ns mainGlobals mg → FnG l.prog w (K w.params) mg base CX k fa fd [x] (sp (K w.params)))
    (want : ∀ (K : PySem.W.Frag) (H : Hp) (a : Addr) (ns : List Int), ns.length ≤ n → (∀ i ∈ ns, Builtin.Int.intBits i ≤ 1048576) → SqL K H a (ns.map V.int) → sp K [.ref a] H (fun v _ => v = .bl true) fun _ _ _ => False)
    (calm : ∀ (H : Hp) (s : Shared) (e : Value) (s' : Shared), CX [] H s (fun _ _ _ => False) e s' → False) :
    PySem.W.WalkO q loose XP YP l.row.toRowW d [] (fun f vs => PySem.call f vs) := by
  refine Att.attach_callB most plain ?_
  intro w s₀ z mg mb fa o pm cd doc a us ns G Y ho hd hcd hmg at_ nums len bits g
  have kin := hY w _ Y
  obtain ⟨fd, hb, hF⟩ := F w mg fa _ kin G.T.g hmg
  have vals := vals_ints nums
  have lenU : us.length = ns.length := nums.length
  have lenS : (ns.map V.int).length ≤ sizeLine := by rw [List.length_map]; exact Nat.le_trans len small
  have isL : ∃ d n, (z.heap.get? a).map Obj.data = some (.seq d n) := ⟨us.toArray, _, by rw [at_]; rfl⟩
  cases lk : (K w.params).lookup a with
  | some ob =>
    have eo := kin a ob lk
    rw [at_] at eo
    cases eo
    refine answer_from (H := fun _ => none) g (fun _ => .inl rfl) (fun b y => absurd rfl y) isL kin (fun y => absurd rfl y) G.T.g G.T.b G.T.builtins G.T.nolimit (fun b u y => by cases (show (none : Option HO) = some u from y)) room hF hb ?_ fun e s' => calm _ z e s'
    exact want _ _ a ns len bits (.inr ⟨_, us.toArray, _, lk, rfl, rfl, rfl, by simpa [lenU] using lenS, by simpa using vals⟩)
  | none =>
    let S : HO := .frz { cls := .type "list", data := .seq us.toArray } (.lst (ns.map V.int))
    have yes : upd (fun _ => none) a S a = some S := upd_same
    have no : ∀ b, b ≠ a → upd (fun _ => none) a S b = none := fun b hb => by rw [upd_ne hb]
    refine answer_from (H := upd (fun _ => none) a S) g (fun b => ?_) (fun b y => ?_) isL kin (fun _ => lk) G.T.g G.T.b G.T.builtins G.T.nolimit (fun b u y => ?_) room hF hb ?_ fun e s' => calm _ z e s'
    · by_cases hb : b = a
      · subst hb
        exact .inr ⟨_, _, yes⟩
      · exact .inl (no b hb)
    · exact Classical.byContradiction fun hb => y (no b hb)
    · by_cases hb : b = a
      · subst hb
        have ey := Option.some.inj (yes.symm.trans y)
        subst ey
        exact ⟨at_, lenS, us, _, vals, at_⟩
      · rw [no b hb] at y
        cases y
    · exact want _ _ a ns len bits (.inl (.inr ⟨_, yes⟩))
end LB

set_option maxRecDepth 100000
set_option maxHeartbeats 2000000
namespace LB
open PySem PySem.Spec PyProof.Rows L2
/-! ### text * int -/
theorem op_mulS {X : Cx} : OpR X (binaryOp .Mult) (fun x y H Q => ∃ z n, x = .str z ∧ y = .int n ∧ MulOk z n ∧ Q (.str (Txt.mul z n)) H) := by
  intro pins s σ H x y v u Q I rx ry h
  obtain ⟨z, n, rfl, rfl, ok, q⟩ := h
  obtain ⟨t, rfl⟩ := rx
  obtain ⟨t', rfl⟩ := ry
  exact SB.mul ok fun t' k => ⟨.str _, H, I.tok k, ⟨t', rfl⟩, q⟩
/-! ### len of a text, told of no place -/
theorem call_lenS {X : Cx} : CallR X (.builtin "len") (fun xs H Q => ∃ z : Str, xs = [.str z] ∧ z.length ≤ sizeLine ∧ Q (.int z.length) H) := by
  intro pins s σ H xs us Q I r h
  obtain ⟨z, rfl, hz, q⟩ := h
  exact call_len pins s σ H _ us Q I r ⟨_, z.length, rfl, ⟨hz, rfl⟩, q⟩
end LB

set_option maxRecDepth 100000
set_option maxHeartbeats 2000000
namespace LB
open PySem PySem.Spec PyProof.Rows L2
/-! ### data of a short repr -/
structure Td (d : PyData) (k m : Nat) : Prop where
  sh : d.showable = true
  nd : d.hasDict = false
  dp : d.depth ≤ k
  lv : d.leavesShort 13 = true
  bk : d.bulk ≤ m
structure TdA (ds : List PyData) (k m : Nat) : Prop where
  sh : PyData.showableAll ds = true
  nd : PyData.hasDictAll ds = false
  dp : PyData.depthAll ds ≤ k
  lv : PyData.leavesShortAll 13 ds = true
  bk : PyData.bulkAll ds ≤ m
theorem Td.short {d : PyData} {k m : Nat} (h : Td d k m) (hk : k ≤ 50) (hm : m ≤ 1048576) : Short d := .of h.sh h.nd (Nat.le_trans h.dp hk) h.lv (Nat.le_trans h.bk (Nat.le_trans hm (by decide)))
theorem Td.up {d : PyData} {k m k' m' : Nat} (h : Td d k m) (hk : k ≤ k') (hm : m ≤ m') : Td d k' m' := ⟨h.sh, h.nd, Nat.le_trans h.dp hk, h.lv, Nat.le_trans h.bk hm⟩
theorem TdA.up {d : List PyData} {k m k' m' : Nat} (h : TdA d k m) (hk : k ≤ k') (hm : m ≤ m') : TdA d k' m' := ⟨h.sh, h.nd, Nat.le_trans h.dp hk, h.lv, Nat.le_trans h.bk hm⟩
theorem Td.non : Td .none 0 0 := ⟨rfl, rfl, Nat.le_refl _, rfl, Nat.le_refl _⟩
theorem Td.int {i : Int} (h : Sm i) : Td (.int i) 0 0 := ⟨decide_eq_true (log_small h), rfl, Nat.le_refl _, decide_eq_true (leaf_small h), Nat.le_refl _⟩
theorem Td.str {x : Str} (h : (x.cps.toList.all fun c => decide (c < 16 ^ 8)) = true) : Td (.str x) 0 x.cps.size := ⟨rfl, rfl, Nat.le_refl _, h, Nat.le_refl _⟩
theorem TdA.nil {k : Nat} : TdA [] k 0 := ⟨rfl, rfl, Nat.zero_le _, rfl, Nat.le_refl _⟩
theorem TdA.cons {d : PyData} {ds : List PyData} {k m m' : Nat} (h : Td d k m) (r : TdA ds k m') : TdA (d :: ds) k (m + 1 + m') := by
  refine ⟨?_, ?_, ?_, ?_, ?_⟩
  · show (PyData.showable d && PyData.showableAll ds) = true
    rw [h.sh, r.sh] <;> rfl
  · show (PyData.hasDict d || PyData.hasDictAll ds) = false
    rw [h.nd, r.nd] <;> rfl
  · show max d.depth (PyData.depthAll ds) ≤ k
    have := h.dp
    have := r.dp
    omega
  · show (PyData.leavesShort 13 d && PyData.leavesShortAll 13 ds) = true
    rw [h.lv, r.lv] <;> rfl
  · show d.bulk + 1 + PyData.bulkAll ds ≤ _
    have := h.bk
    have := r.bk
    omega
theorem Td.tup {ds : List PyData} {k m : Nat} (h : TdA ds k m) : Td (.tuple ds) (k + 1) m := ⟨h.sh, h.nd, Nat.succ_le_succ h.dp, h.lv, h.bk⟩
theorem Td.lst {ds : List PyData} {k m : Nat} (h : TdA ds k m) : Td (.list ds) (k + 1) m := ⟨h.sh, h.nd, Nat.succ_le_succ h.dp, h.lv, h.bk⟩
theorem TdA.of {ds : List PyData} {k m : Nat} (h : ∀ d ∈ ds, Td d k m) : TdA ds k (ds.length * (m + 1)) := by
  induction ds with
  | nil => exact TdA.nil.up (Nat.le_refl _) (Nat.zero_le _)
  | cons d r ih =>
    refine (TdA.cons (h d (List.mem_cons_self ..)) (ih fun x hx => h x (List.mem_cons_of_mem _ hx))).up (Nat.le_refl _) ?_
    rw [List.length_cons, Nat.succ_mul]
    omega
theorem TdA.ints {ns : List Int} (h : ∀ n ∈ ns, Sm n) : TdA (ns.map PyData.int) 0 ns.length := by
  have := TdA.of (ds := ns.map PyData.int) (k := 0) (m := 0) fun d hd => by
    obtain ⟨n, hn, e⟩ := List.mem_map.mp hd
    rw [← e]
    exact .int (h n hn)
  rw [List.length_map, Nat.mul_one] at this
  exact this
theorem Td.bool {b : Bool} : Td (.bool b) 0 0 := ⟨rfl, rfl, Nat.le_refl _, (by cases b <;> decide), Nat.le_refl _⟩
end LB

set_option maxRecDepth 100000
set_option maxHeartbeats 2000000
namespace LB
open PySem PySem.Spec PyProof.Rows L2
def top (i : Nat) : Stmt := PySem.Challenge.pw_asforetold_k02_paths_written.main.body.getD i (.Pass ⟨0, 0, 0, 0⟩)
abbrev sWritesNumber : Stmt := top 2
abbrev sWritePath : Stmt := top 4
abbrev sReadPath : Stmt := top 5
abbrev sIsAbove : Stmt := top 6
abbrev sChildPath : Stmt := top 7
abbrev sCell : Stmt := top 9
abbrev sDigits : Stmt := top 10
abbrev sDraw : Stmt := top 11
abbrev sAlike : Stmt := top 12
abbrev sLPath : Stmt := top 13
abbrev sLNear : Stmt := top 14
abbrev sLIsPath : Stmt := top 15
abbrev sLaw : Stmt := top 16
end LB

set_option maxRecDepth 100000
set_option maxHeartbeats 4000000
namespace LB
open PySem PySem.Spec PyProof.Rows L2
/-! ### the helpers of a law -/
/-- built-ins' names that the module leaves free -/
structure Names (mg : Str → Option Value) : Prop where
  len : mg "len" = none
  range : mg "range" = none
  int : mg "int" = none
  repr : mg "repr" = none
section
variable {P : Program} {w : World} {K : PySem.W.Frag} {mg : Str → Option Value} {base : Heap}
/-- some int comes back -/
def spCellL (K : PySem.W.Frag) : Sp := fun vs H Q _ => ∃ (a : Addr) (ns : List Int) (k : Int), vs = [.ref a, .int k] ∧ SqL K H a (ns.map V.int) ∧ 0 ≤ k ∧ ∀ c : Int, Q (.int c) H
theorem scCell : FnScope ["script", "k"] ["script", "k"] (defScope sCell) := ⟨rfl, rfl, rfl, by decide +kernel, rfl, by decide +kernel, by decide +kernel⟩
theorem ok_cell {f : Addr} {fd : FuncData} (F : Fun K "_law_cell" "_law_cell" sCell f fd) (M : Names mg) : FnOk P w K mg base CX0 1 f fd ["script", "k"] (spCellL K) := by
  refine F.ok scCell (fun vs H Q E h => ?_) (fun cdv A outer s H vs Q E hr h => ?_)
  · obtain ⟨a, ns, k, rfl, _⟩ := h
    rfl
  · obtain ⟨a, ns, k, rfl, hS, h0, q⟩ := h
    refine ⟨_, (pss_cons (ps_if (pt_cmpR op_lt (pv 1) (pe_callB call_len_seq (by rfl) M.len PySem.boot_len (pa_cons (pv 0) pa_nil)) (nomark _)) (pss_one (ps_ret (pe_ix ix_list (pv 0) (pv 1) (fun _ _ => rfl)))) pss_nil)
        (pss_one (ps_ret pe_int))), ?_⟩
    refine ⟨_, rfl, _, rfl, a, _, rfl, .inl hS, _, _, rfl, rfl, _, rfl, ?_⟩
    refine ite2 (fun c => ?_) (fun c => q 0)
    have lt := of_decide_eq_true c
    rw [List.length_map] at lt
    obtain ⟨j, rfl⟩ : ∃ j : Nat, k = (j : Int) := ⟨k.toNat, by omega⟩
    have hj : j < ns.length := by omega
    exact ⟨_, rfl, _, rfl, a, _, _, _, rfl, rfl, hS, atI_nat (v := V.int ns[j]) (by rw [List.getElem?_map, List.getElem?_eq_getElem hj]; rfl), q _⟩
/-- a number of three digits at most -/
def Dig (i : Int) : Prop := 0 ≤ i ∧ i < 1000
/-- a new list of at most 63 * 60 such numbers -/
def spDigits (K : PySem.W.Frag) : Sp := fun vs H Q _ => ∃ (a : Addr) (ns : List Int) (i j : Int), vs = [.ref a, .int i, .int j] ∧ SqL K H a (ns.map V.int) ∧ 0 ≤ i ∧ i ≤ j ∧ j ≤ 63 ∧
  ∀ (ds : List Int) (H' : Hp) (p : Addr), Same H H' → H p = none → H' p = some (.lst (ds.map V.int)) → (∀ d ∈ ds, Dig d) → ds.length ≤ 3780 → Q (.ref p) H'
theorem scDigits : FnScope ["script", "first", "last", "digits", "k", "cell", "turn", "seed"] ["script", "first", "last"] (defScope sDigits) := ⟨rfl, rfl, rfl, by decide +kernel, rfl, by decide +kernel, by decide +kernel⟩
theorem same_upd {H H' : Hp} {p : Addr} {o : HO} (e : Same H H') (n : H p = none) : Same H (upd H' p o) := fun b u q => by
  rw [upd_ne (ne_of_none q n)]
  exact e b u q
theorem dig_more {c : Int} {ds : List Int} (h : ∀ d ∈ ds, Dig d) : ∀ d ∈ ds ++ [c % 1000], Dig d := by
  intro d hd
  rcases List.mem_append.mp hd with h1 | h1
  · exact h d h1
  · rw [List.mem_singleton.mp h1]
    exact ⟨Int.emod_nonneg _ (by decide), Int.emod_lt_of_pos _ (by decide)⟩
theorem lst_more {ds : List Int} {c : Int} : HO.lst (ds.map V.int ++ [V.int c]) = HO.lst ((ds ++ [c]).map V.int) := by rw [List.map_append] <;> rfl
theorem small_line {n : Nat} (h : n ≤ 4000) : n < sizeLine := Nat.lt_of_le_of_lt h (by decide)
theorem ok_digits {f fC : Addr} {fd fdC : FuncData} (F : Fun K "_law_digits" "_law_digits" sDigits f fd) (M : Names mg) (FC : Fun K "_law_cell" "_law_cell" sCell fC fdC) (mCell : mg "_law_cell" = some (.ref fC)) (bCell : Binds K fdC ["script", "k"] []) :
    FnOk P w K mg base CX0 2 f fd ["script", "first", "last"] (spDigits K) := by
  have GCell : FnOk P w K mg base CX0 1 fC fdC ["script", "k"] (spCellL K) := ok_cell FC M
  have kCell := FC.kp
  refine F.ok scDigits (fun vs H Q E h => ?_) (fun cdv A outer s H vs Q E hr h => ?_)
  · obtain ⟨a, ns, i, j, rfl, _⟩ := h
    rfl
  · obtain ⟨a, ns, i, j, rfl, hS, h0, hij, hj, q⟩ := h
    have nd := scDigits.nd
    refine ⟨_, (pss_cons (ps_set (i := 3) nd rfl (Or.inl rfl) (pe_lst pa_nil))
        (pss_cons (ps_for PassesOwn.never rfl (pi_range2 (by rfl) M.range (pa_cons (pv 1) (pa_cons (pv 2) pa_nil))) (pg_name (i := 4) nd rfl (Or.inl rfl)) (pss_cons (ps_set (i := 5) nd rfl (Or.inl rfl) (pe_call GCell (hr.mono (by decide)) rfl mCell kCell bCell .nil pass0 (pa_cons (pv 0) (pa_cons (pv 4) pa_nil))))
        (pss_cons (ps_if (pt_cmpR op_lt (pv 5) pe_int (nomark _)) (pss_one (ps_set (i := 5) nd rfl (Or.inl rfl) (pe_op op_sub pe_int (pe_op op_mul pe_int (pv 5))))) pss_nil)
        (pss_one (ps_if (pt_cmpR op_ge (pv 5) pe_int (nomark _)) (pss_one (ps_for PassesOwn.never rfl (pi_range1 (by rfl) M.range (pa_cons pe_int pa_nil)) (pg_name (i := 6) nd rfl (Or.inl rfl)) (pss_one (ps_if (pt_cmpR op_gt (pv 5) pe_int (nomark _)) (pss_cons (ps_expr (pe_bm PySem.F.plainAttrs_list PySem.F.slot_list_append PySem.F.type_list_append mt_append (pv 3) (pa_cons (pe_op op_mod (pe_callTy call_int1 (by rfl) M.int (by decide +kernel) (pa_cons (pv 5) pa_nil)) pe_int) pa_nil)))
        (pss_one (ps_set (i := 5) nd rfl (Or.inl rfl) (pe_op op_fdiv (pv 5) pe_int)))) pss_nil)))) (pss_cons (ps_set (i := 7) nd rfl (Or.inl rfl) (pe_op op_mod (pe_callTy call_int1 (by rfl) M.int (by decide +kernel) (pa_cons (pe_op op_add (pe_op op_add (pe_op op_mul (pv 5) pe_int) (pe_op op_mul (pv 4) pe_int)) pe_int) pa_nil)) pe_int))
        (pss_one (ps_for PassesOwn.never rfl (pi_range1 (by rfl) M.range (pa_cons pe_int pa_nil)) (pg_name (i := 6) nd rfl (Or.inl rfl)) (pss_cons (ps_set (i := 7) nd rfl (Or.inl rfl) (pe_op op_mod (pe_callTy call_int1 (by rfl) M.int (by decide +kernel) (pa_cons (pe_op op_add (pe_op op_add (pe_op op_mul (pv 7) pe_int) (pe_op op_mul pe_int (pv 6))) pe_int) pa_nil)) pe_int))
        (pss_one (ps_expr (pe_bm PySem.F.plainAttrs_list PySem.F.slot_list_append PySem.F.type_list_append mt_append (pv 3) (pa_cons (pe_op op_mod (pe_callTy call_int1 (by rfl) M.int (by decide +kernel) (pa_cons (pe_op op_fdiv (pv 7) pe_int) pa_nil)) pe_int) pa_nil)))))))))))))
        (pss_one (ps_ret (pv 3))))), ?_⟩
    refine ⟨(by show 0 ≤ sizeLine; decide), fun p hp => ?_⟩
    refine ⟨_, rfl, _, rfl, i, j, rfl, ⟨by omega, by omega, by omega, by omega⟩, ?_⟩
    refine for_range (lo := i) (n := (j - i).toNat) (fun m σ H' => ∃ (ds : List Int) (v4 v5 v6 v7 : Option V), σ = [some (.ref a), some (.int i), some (.int j), some (.ref p), v4, v5, v6, v7] ∧ Same H H' ∧ H' p = some (.lst (ds.map V.int)) ∧ (∀ d ∈ ds, Dig d) ∧ ds.length ≤ 60 * m)
      ⟨[], none, none, none, none, rfl, same_upd (Same.refl H) hp, upd_same, by simp, by simp⟩ ?_ ?_
    · rintro m σ H' hm ⟨ds, v4, v5, v6, v7, rfl, sm, hl, hd, hlen⟩
      refine ⟨_, rfl, _, rfl, a, ns, _, rfl, sm.seq hS, by omega, fun c => ?_⟩
      refine ⟨_, rfl, _, _, rfl, rfl, _, rfl, ?_⟩
      refine ite2 (fun _ => ?_) (fun _ => ?_)
      · refine ⟨_, rfl, _, _, rfl, rfl, .inl ⟨by decide, by decide⟩, _, _, rfl, rfl, ?_⟩
        generalize (1 : Int) - 2 * c = c'
        (refine ⟨_, rfl, _, _, rfl, rfl, _, rfl, ?_⟩
         refine ite2 (fun _ => ?_) (fun _ => ?_)
         · refine ⟨60, rfl, by decide, by decide, for_range (n := 60) (fun t σ H2 => ∃ (ds : List Int) (c : Int) (v6 : Option V), σ = [some (.ref a), some (.int i), some (.int j), some (.ref p), some (.int (i + m)), some (.int c), v6, v7] ∧ Same H H2 ∧ H2 p = some (.lst (ds.map V.int)) ∧ (∀ d ∈ ds, Dig d) ∧ ds.length ≤ 60 * m + t)
             ⟨ds, _, v6, rfl, sm, hl, hd, by omega⟩ ?_ ?_⟩
           · rintro t σ H2 ht ⟨ds, c, v6, rfl, sm, hl, hd, hlen⟩
             refine ⟨_, rfl, _, _, rfl, rfl, _, rfl, ?_⟩
             refine ite2 (fun _ => ?_) (fun _ => ?_)
             · refine ⟨_, rfl, .inl ⟨rfl, _, SqL.of hl⟩, _, rfl, .inl ⟨_, rfl, _, _, rfl, rfl, (by show (0 : Int) < 1000; decide), p, _, _, rfl, rfl, hl, (by rw [List.length_map]; exact small_line (by omega)), ?_⟩⟩
               refine ⟨_, rfl, _, _, rfl, rfl, ⟨by decide, by decide⟩, ?_⟩
               exact ⟨ds ++ [c % 1000], _, _, rfl, same_upd sm hp, upd_same.trans (congrArg some lst_more), dig_more hd, by rw [List.length_append, List.length_singleton]; omega⟩
             · exact ⟨ds, _, _, rfl, sm, hl, hd, by omega⟩
           · rintro σ H2 ⟨ds, c, v6, rfl, sm, hl, hd, hlen⟩
             exact ⟨ds, _, _, _, _, rfl, sm, hl, hd, by omega⟩
         · refine ⟨_, rfl, _, _, rfl, rfl, .inr ⟨by decide, by decide⟩, _, rfl, _, _, rfl, rfl, .inr ⟨by decide, by decide⟩, _, _, rfl, rfl, _, _, rfl, rfl, .inl ⟨_, rfl, _, _, rfl, rfl, (by show (0 : Int) < 2147483399; decide), ?_⟩⟩
           refine ⟨12, rfl, by decide, by decide, for_range (n := 12) (fun t σ H2 => ∃ (ds : List Int) (c : Int) (v6 : Option V) (s7 : Int), σ = [some (.ref a), some (.int i), some (.int j), some (.ref p), some (.int (i + m)), some (.int c), v6, some (.int s7)] ∧ Same H H2 ∧ H2 p = some (.lst (ds.map V.int)) ∧ (∀ d ∈ ds, Dig d) ∧ ds.length ≤ 60 * m + t)
             ⟨ds, _, v6, _, rfl, sm, hl, hd, by omega⟩ ?_ ?_⟩
           · rintro t σ H2 ht ⟨ds, c, v6, s7, rfl, sm, hl, hd, hlen⟩
             refine ⟨_, rfl, _, _, rfl, rfl, .inr ⟨by decide, by decide⟩, _, rfl, _, _, rfl, rfl, .inl ⟨by decide, by decide⟩, _, _, rfl, rfl, _, _, rfl, rfl, .inl ⟨_, rfl, _, _, rfl, rfl, (by show (0 : Int) < 2147483563; decide), ?_⟩⟩
             refine ⟨_, rfl, .inl ⟨rfl, _, SqL.of hl⟩, _, rfl, _, _, rfl, rfl, ⟨by decide, by decide⟩, .inl ⟨_, rfl, _, _, rfl, rfl, (by show (0 : Int) < 1000; decide), p, _, _, rfl, rfl, hl, (by rw [List.length_map]; exact small_line (by omega)), ?_⟩⟩
             exact ⟨ds ++ [_ % 1000], _, _, _, rfl, same_upd sm hp, upd_same.trans (congrArg some lst_more), dig_more hd, by rw [List.length_append, List.length_singleton]; omega⟩
           · rintro σ H2 ⟨ds, c, v6, s7, rfl, sm, hl, hd, hlen⟩
             exact ⟨ds, _, _, _, _, rfl, sm, hl, hd, by omega⟩)
      · (refine ⟨_, rfl, _, _, rfl, rfl, _, rfl, ?_⟩
         refine ite2 (fun _ => ?_) (fun _ => ?_)
         · refine ⟨60, rfl, by decide, by decide, for_range (n := 60) (fun t σ H2 => ∃ (ds : List Int) (c : Int) (v6 : Option V), σ = [some (.ref a), some (.int i), some (.int j), some (.ref p), some (.int (i + m)), some (.int c), v6, v7] ∧ Same H H2 ∧ H2 p = some (.lst (ds.map V.int)) ∧ (∀ d ∈ ds, Dig d) ∧ ds.length ≤ 60 * m + t)
             ⟨ds, _, v6, rfl, sm, hl, hd, by omega⟩ ?_ ?_⟩
           · rintro t σ H2 ht ⟨ds, c, v6, rfl, sm, hl, hd, hlen⟩
             refine ⟨_, rfl, _, _, rfl, rfl, _, rfl, ?_⟩
             refine ite2 (fun _ => ?_) (fun _ => ?_)
             · refine ⟨_, rfl, .inl ⟨rfl, _, SqL.of hl⟩, _, rfl, .inl ⟨_, rfl, _, _, rfl, rfl, (by show (0 : Int) < 1000; decide), p, _, _, rfl, rfl, hl, (by rw [List.length_map]; exact small_line (by omega)), ?_⟩⟩
               refine ⟨_, rfl, _, _, rfl, rfl, ⟨by decide, by decide⟩, ?_⟩
               exact ⟨ds ++ [c % 1000], _, _, rfl, same_upd sm hp, upd_same.trans (congrArg some lst_more), dig_more hd, by rw [List.length_append, List.length_singleton]; omega⟩
             · exact ⟨ds, _, _, rfl, sm, hl, hd, by omega⟩
           · rintro σ H2 ⟨ds, c, v6, rfl, sm, hl, hd, hlen⟩
             exact ⟨ds, _, _, _, _, rfl, sm, hl, hd, by omega⟩
         · refine ⟨_, rfl, _, _, rfl, rfl, .inr ⟨by decide, by decide⟩, _, rfl, _, _, rfl, rfl, .inr ⟨by decide, by decide⟩, _, _, rfl, rfl, _, _, rfl, rfl, .inl ⟨_, rfl, _, _, rfl, rfl, (by show (0 : Int) < 2147483399; decide), ?_⟩⟩
           refine ⟨12, rfl, by decide, by decide, for_range (n := 12) (fun t σ H2 => ∃ (ds : List Int) (c : Int) (v6 : Option V) (s7 : Int), σ = [some (.ref a), some (.int i), some (.int j), some (.ref p), some (.int (i + m)), some (.int c), v6, some (.int s7)] ∧ Same H H2 ∧ H2 p = some (.lst (ds.map V.int)) ∧ (∀ d ∈ ds, Dig d) ∧ ds.length ≤ 60 * m + t)
             ⟨ds, _, v6, _, rfl, sm, hl, hd, by omega⟩ ?_ ?_⟩
           · rintro t σ H2 ht ⟨ds, c, v6, s7, rfl, sm, hl, hd, hlen⟩
             refine ⟨_, rfl, _, _, rfl, rfl, .inr ⟨by decide, by decide⟩, _, rfl, _, _, rfl, rfl, .inl ⟨by decide, by decide⟩, _, _, rfl, rfl, _, _, rfl, rfl, .inl ⟨_, rfl, _, _, rfl, rfl, (by show (0 : Int) < 2147483563; decide), ?_⟩⟩
             refine ⟨_, rfl, .inl ⟨rfl, _, SqL.of hl⟩, _, rfl, _, _, rfl, rfl, ⟨by decide, by decide⟩, .inl ⟨_, rfl, _, _, rfl, rfl, (by show (0 : Int) < 1000; decide), p, _, _, rfl, rfl, hl, (by rw [List.length_map]; exact small_line (by omega)), ?_⟩⟩
             exact ⟨ds ++ [_ % 1000], _, _, _, rfl, same_upd sm hp, upd_same.trans (congrArg some lst_more), dig_more hd, by rw [List.length_append, List.length_singleton]; omega⟩
           · rintro σ H2 ⟨ds, c, v6, s7, rfl, sm, hl, hd, hlen⟩
             exact ⟨ds, _, _, _, _, rfl, sm, hl, hd, by omega⟩)
    · rintro σ H' ⟨ds, v4, v5, v6, v7, rfl, sm, hl, hd, hlen⟩
      exact ⟨_, rfl, q ds H' p sm hp hl hd (by omega)⟩
end
end LB

set_option maxRecDepth 100000
set_option maxHeartbeats 4000000
namespace LB
open PySem PySem.Spec PyProof.Rows L2
/-! ### the box of draws -/
/-- at b: a list of the digits' list and of a place -/
def Box (H : Hp) (b : Addr) : Prop := ∃ (l : Addr) (ds : List Int) (n : Int), H b = some (.lst [.ref l, .int n]) ∧ H l = some (.lst (ds.map V.int)) ∧ b ≠ l ∧ 0 ≤ n ∧ ds.length ≤ 3780
/-- all stands but what is at b, and the list of the digits is the same one -/
structure But (b : Addr) (H H' : Hp) : Prop where
  k : ∀ a o, a ≠ b → H a = some o → H' a = some o
  d : ∀ l n, H b = some (.lst [.ref l, .int n]) → ∃ n' : Int, H' b = some (.lst [.ref l, .int n'])
theorem But.refl (b : Addr) (H : Hp) : But b H H := ⟨fun _ _ _ q => q, fun l n h => ⟨n, h⟩⟩
theorem But.trans {b : Addr} {H H1 H2 : Hp} (x : But b H H1) (y : But b H1 H2) : But b H H2 := ⟨fun a o n q => y.k a o n (x.k a o n q), fun l n h => let ⟨n', h'⟩ := x.d l n h; y.d l n' h'⟩
theorem But.of {b : Addr} {H H' : Hp} (e : Same H H') : But b H H' := ⟨fun a o _ q => e a o q, fun l n h => ⟨n, e _ _ h⟩⟩
theorem But.new {b : Addr} {H H' : Hp} {p : Addr} {o : HO} (x : But b H H') (n : H' p = none) : But b H (upd H' p o) :=
  ⟨fun a u na q => by
    have q' := x.k a u na q
    rw [upd_ne (ne_of_none q' n)]
    exact q', fun l m h => by
    obtain ⟨n', h'⟩ := x.d l m h
    exact ⟨n', by rw [upd_ne (ne_of_none h' n)]; exact h'⟩⟩
theorem But.seqT {K : PySem.W.Frag} {b : Addr} {H H' : Hp} {a : Addr} {xs : List V} (x : But b H H') (ne : ∀ ys, H b ≠ some (.tup ys)) (nf : ∀ o u, H b ≠ some (.frz o u)) (h : SqT K H a xs) : SqT K H' a xs := by
  rcases h with (h | ⟨o, h⟩) | h
  · exact .inl (.inl (x.k a _ (fun z => ne _ (z ▸ h)) h))
  · exact .inl (.inr ⟨o, x.k a _ (fun z => nf _ _ (z ▸ h)) h⟩)
  · exact .inr h
theorem Box.ne {H : Hp} {b : Addr} (B : Box H b) : (∀ ys, H b ≠ some (.tup ys)) ∧ ∀ o u, H b ≠ some (.frz o u) := by
  obtain ⟨l, ds, n, h, _⟩ := B
  rw [h]
  exact ⟨fun ys z => (by cases z), fun o u z => (by cases z)⟩
theorem Box.tup {K : PySem.W.Frag} {b : Addr} {H H' : Hp} {a : Addr} {xs : List V} (B : Box H b) (x : But b H H') (h : SqT K H a xs) : SqT K H' a xs := x.seqT B.ne.1 B.ne.2 h
theorem Box.new {H : Hp} {b p : Addr} {o : HO} (B : Box H b) (n : H p = none) : Box (upd H p o) b := by
  obtain ⟨l, ds, k, h, hl, r⟩ := B
  exact ⟨l, ds, k, by rw [upd_ne (ne_of_none h n)]; exact h, by rw [upd_ne (ne_of_none hl n)]; exact hl, r⟩
section
variable {P : Program} {w : World} {K : PySem.W.Frag} {mg : Str → Option Value} {base : Heap}
def spDraw (K : PySem.W.Frag) : Sp := fun vs H Q _ => ∃ (b : Addr) (m : Int), vs = [.ref b, .int m] ∧ Box H b ∧ 0 < m ∧ ∀ (r : Int) (H' : Hp), 0 ≤ r → r < m → Box H' b → But b H H' → Q (.int r) H'
theorem scDraw : FnScope ["box", "many", "at"] ["box", "many"] (defScope sDraw) := ⟨rfl, rfl, rfl, by decide +kernel, rfl, by decide +kernel, by decide +kernel⟩
theorem ok_draw {f : Addr} {fd : FuncData} (F : Fun K "_law_draw" "_law_draw" sDraw f fd) (M : Names mg) : FnOk P w K mg base CX0 1 f fd ["box", "many"] (spDraw K) := by
  refine F.ok scDraw (fun vs H Q E h => ?_) (fun cdv A outer s H vs Q E hr h => ?_)
  · obtain ⟨b, m, rfl, _⟩ := h
    rfl
  · obtain ⟨b, m, rfl, ⟨l, ds, n, hb, hl, ne, h0, hlen⟩, hm, q⟩ := h
    have nd := scDraw.nd
    refine ⟨_, (pss_cons (ps_set (i := 2) nd rfl (Or.inl rfl) (pe_ix ix_list (pv 0) pe_int (fun _ _ => rfl)))
        (pss_cons (ps_asg (pe_op op_add (pv 2) pe_int) (pg_sub (pv 0) pe_int set_list))
        (pss_cons (ps_if (pt_cmpR op_lt (pv 2) (pe_callB call_len_seq (by rfl) M.len PySem.boot_len (pa_cons (pe_ix ix_list (pv 0) pe_int (fun _ _ => rfl)) pa_nil)) (nomark _)) (pss_one (ps_ret (pe_op op_mod (pe_callTy call_int1 (by rfl) M.int (by decide +kernel) (pa_cons (pe_ix ix_list (pe_ix ix_list (pv 0) pe_int (fun _ _ => rfl)) (pv 2) (fun _ _ => rfl)) pa_nil)) (pv 1)))) pss_nil)
        (pss_one (ps_ret (pe_op op_mod (pe_callTy call_int1 (by rfl) M.int (by decide +kernel) (pa_cons (pe_op op_add (pe_op op_mul (pv 2) pe_int) pe_int) pa_nil)) (pv 1))))))), ?_⟩
    refine ⟨_, rfl, b, _, _, _, rfl, rfl, SqL.of hb, rfl, ?_⟩
    refine ⟨_, rfl, _, _, rfl, rfl, _, rfl, b, _, _, 1, rfl, rfl, hb, rfl, ?_⟩
    have hb' : upd H b (.lst [.ref l, .int (n + 1)]) b = some (.lst [.ref l, .int (n + 1)]) := upd_same
    have hl' : upd H b (.lst [.ref l, .int (n + 1)]) l = some (.lst (ds.map V.int)) := by rw [upd_ne ne.symm]; exact hl
    have B : Box (upd H b (.lst [.ref l, .int (n + 1)])) b := ⟨l, ds, n + 1, hb', hl', ne, by omega, hlen⟩
    have U : But b H (upd H b (.lst [.ref l, .int (n + 1)])) := ⟨fun a o na z => by rw [upd_ne na]; exact z, fun l' n' z => by
      rw [hb] at z
      cases z
      exact ⟨n + 1, hb'⟩⟩
    refine ⟨_, rfl, _, rfl, b, _, _, _, rfl, rfl, SqL.of hb', rfl, l, _, rfl, .inl (SqL.of hl'), _, _, rfl, rfl, _, rfl, ?_⟩
    refine ite2 (fun c => ?_) (fun c => ?_)
    · have lt := of_decide_eq_true c
      rw [List.length_map] at lt
      obtain ⟨j, rfl⟩ : ∃ j : Nat, n = (j : Int) := ⟨n.toNat, by omega⟩
      have hj : j < ds.length := by omega
      refine ⟨_, rfl, b, _, _, _, rfl, rfl, SqL.of hb', rfl, _, rfl, l, _, _, _, rfl, rfl, SqL.of hl', atI_nat (v := V.int ds[j]) (by rw [List.getElem?_map, List.getElem?_eq_getElem hj]; rfl), .inl ⟨_, rfl, _, rfl, _, _, rfl, rfl, hm, ?_⟩⟩
      exact q _ _ (Int.emod_nonneg _ (by omega)) (Int.emod_lt_of_pos _ hm) B U
    · refine ⟨_, rfl, _, _, rfl, rfl, .inr ⟨by decide, by decide⟩, _, _, rfl, rfl, .inl ⟨_, rfl, _, rfl, _, _, rfl, rfl, hm, ?_⟩⟩
      exact q _ _ (Int.emod_nonneg _ (by omega)) (Int.emod_lt_of_pos _ hm) B U
theorem scAlike : FnScope ["one", "two"] ["one", "two"] (defScope sAlike) := ⟨rfl, rfl, rfl, by decide +kernel, rfl, by decide +kernel, by decide +kernel⟩
theorem ok_alike {f : Addr} {fd : FuncData} (F : Fun K "_law_alike" "_law_alike" sAlike f fd) (M : Names mg) : FnG P w K mg base CX0 1 f fd ["one", "two"] (spAlike K) := by
  refine FnG.of_fun F scAlike (fun vs H Q E h => ?_) (fun cdv A outer s H vs Q E gf hr h => ?_)
  · obtain ⟨x, y, d, rfl, _⟩ := h
    rfl
  · obtain ⟨x, y, d, rfl, hx, hy, S, q⟩ := h
    refine ⟨_, (pss_one (ps_ret (pe_cmpR op_eq (pe_callB (call_repr gf hr.units) (by rfl) M.repr PyProof.Rows.boot_repr (pa_cons (pv 0) pa_nil)) (pe_callB (call_repr gf hr.units) (by rfl) M.repr PyProof.Rows.boot_repr (pa_cons (pv 1) pa_nil)) (nomark _)))), ?_⟩
    refine ⟨_, rfl, x, d, rfl, hx, S, _, rfl, y, d, rfl, hy, S, rfl, ?_⟩
    show Q (V.bl (decide (V.str d.shown = V.str d.shown))) _
    rw [decide_eq_true rfl]
    exact q
end
end LB

set_option maxRecDepth 100000
set_option maxHeartbeats 4000000
namespace LB
open PySem PySem.Spec PyProof.Rows L2
/-! ### tuples stay -/
structure Tp (H H' : Hp) : Prop where
  tup : ∀ a xs, H a = some (.tup xs) → H' a = some (.tup xs)
  frz : ∀ a o u, H a = some (.frz o u) → H' a = some (.frz o u)
theorem Tp.refl (H : Hp) : Tp H H := ⟨fun _ _ z => z, fun _ _ _ z => z⟩
theorem Tp.trans {H H1 H2 : Hp} (x : Tp H H1) (y : Tp H1 H2) : Tp H H2 := ⟨fun a xs z => y.tup a xs (x.tup a xs z), fun a o u z => y.frz a o u (x.frz a o u z)⟩
theorem Tp.same {H H' : Hp} (e : Same H H') : Tp H H' := ⟨fun a xs z => e _ _ z, fun a o u z => e _ _ z⟩
theorem Tp.but {b : Addr} {H H' : Hp} (B : Box H b) (e : But b H H') : Tp H H' :=
  ⟨fun a xs z => e.k a _ (fun y => B.ne.1 xs (y ▸ z)) z, fun a o u z => e.k a _ (fun y => B.ne.2 o u (y ▸ z)) z⟩
theorem Tp.lst {H : Hp} {l : Addr} {xs : List V} {o : HO} (h : H l = some (.lst xs)) : Tp H (upd H l o) :=
  ⟨fun a ys z => by rw [upd_ne (ne_of z h (by intro y; cases y))]; exact z, fun a p u z => by rw [upd_ne (ne_of z h (by intro y; cases y))]; exact z⟩
theorem Tp.seq {K : PySem.W.Frag} {H H' : Hp} {a : Addr} {xs : List V} (x : Tp H H') (h : SqT K H a xs) : SqT K H' a xs := by
  rcases h with (h | ⟨o, h⟩) | h
  · exact .inl (.inl (x.tup _ _ h))
  · exact .inl (.inr ⟨o, x.frz _ _ _ h⟩)
  · exact .inr h
theorem Box.apart {H : Hp} {b l : Addr} (B : Box H b) (n : H l = none) : l ≠ b := fun z => by
  obtain ⟨_, _, _, h, _⟩ := B
  rw [z, h] at n
  cases n
theorem Box.keepL {H H' : Hp} {b l : Addr} {xs : List V} (B : Box H b) (n : H l = none) (U : But b (upd H l (.lst xs)) H') : H' l = some (.lst xs) := U.k l _ (B.apart n) upd_same
theorem Box.same {H H' : Hp} {b : Addr} (B : Box H b) (e : Same H H') : Box H' b := by
  obtain ⟨l, ds, k, h, hl, r⟩ := B
  exact ⟨l, ds, k, e _ _ h, e _ _ hl, r⟩
theorem same_new {H : Hp} {p : Addr} {o : HO} (n : H p = none) : Same H (upd H p o) := same_upd (Same.refl H) n
theorem Box.off {H : Hp} {b l : Addr} (B : Box H b) (e : H l = none) : l ≠ b := B.apart e
/-- a list that is not of the box is written -/
theorem Box.put {H0 H : Hp} {b l : Addr} {o : HO} (B0 : Box H0 b) (B : Box H b) (U : But b H0 H) (e : H0 l = none) : Box (upd H l o) b ∧ But b H0 (upd H l o) := by
  have lb := B0.off e
  obtain ⟨l0, d0, n0, hb0, hl0, _⟩ := B0
  obtain ⟨l1, d1, n1, hb1, hl1, ne1, r⟩ := B
  obtain ⟨n', h'⟩ := U.d l0 n0 hb0
  have el : l1 = l0 := by
    rw [hb1] at h'
    have e2 := Option.some.inj h'
    injection e2 with e3
    injection e3 with e4
    exact V.ref.inj e4
  subst el
  have ll : l ≠ l1 := fun z => by rw [z, hl0] at e; cases e
  have U' : But b H0 (upd H l o) := ⟨fun a u na q => by
    have al : a ≠ l := fun z => by rw [z, e] at q; cases q
    rw [upd_ne al]
    exact U.k a u na q, fun l' m q => by
    obtain ⟨m', q'⟩ := U.d l' m q
    exact ⟨m', by rw [upd_ne (Ne.symm lb)]; exact q'⟩⟩
  exact ⟨⟨l1, d1, n1, by rw [upd_ne (Ne.symm lb)]; exact hb1, by rw [upd_ne (Ne.symm ll)]; exact hl1, ne1, r⟩, U'⟩
end LB

set_option maxRecDepth 100000
set_option maxHeartbeats 4000000
namespace LB
open PySem PySem.Spec PyProof.Rows L2
/-! ### words and tests -/
theorem atI_0 {x : V} {xs : List V} : atI (x :: xs) 0 = some x := atI_nat (j := 0) (v := x) (xs := x :: xs) rfl
theorem iteE {x y : Str} {A B : Prop} (h : x = y) (a : A) : if decide (V.str x = V.str y) = true then A else B := by rw [if_pos (decide_eq_true (congrArg V.str h))]; exact a
theorem iteN {x y : Str} {A B : Prop} (h : x ≠ y) (b : B) : if decide (V.str x = V.str y) = true then A else B := by rw [if_neg (fun c => h (V.str.inj (of_decide_eq_true c)))]; exact b
theorem ite_int {x y : Int} {A B : Prop} (h1 : x = y → A) (h2 : x ≠ y → B) : if decide (V.int x = V.int y) = true then A else B :=
  ite2 (fun c => h1 (V.int.inj (of_decide_eq_true c))) (fun c => h2 fun e => c (decide_eq_true (congrArg V.int e)))
theorem inTwo {x a b : Str} (h : inV (V.str x) [V.str a, V.str b] = true) : a = x ∨ b = x := by
  have h : ((a == x) || ((b == x) || false)) = true := h
  rw [Bool.or_false, Bool.or_eq_true] at h
  exact h.imp (fun e => eq_of_beq e) fun e => eq_of_beq e
theorem inTwo_of {x a b : Str} (h : a = x ∨ b = x) : inV (V.str x) [V.str a, V.str b] = true := by
  show ((a == x) || ((b == x) || false)) = true
  rw [Bool.or_false, Bool.or_eq_true]
  exact h.imp (fun e => beq_iff_eq.mpr e) fun e => beq_iff_eq.mpr e
/-! ### data under what stays -/
theorem sqT_same {K : PySem.W.Frag} {H H' : Hp} {a : Addr} {xs : List V} (e : Same H H') (h : SqT K H a xs) : SqT K H' a xs := (Tp.same e).seq h
theorem sqL_same {K : PySem.W.Frag} {H H' : Hp} {a : Addr} {xs : List V} (e : Same H H') (h : SqL K H a xs) : SqL K H' a xs := by
  rcases h with (h | ⟨o, h⟩) | h
  · exact .inl (.inl (e _ _ h))
  · exact .inl (.inr ⟨o, e _ _ h⟩)
  · exact .inr h
mutual
theorem dp_same {K : PySem.W.Frag} {H H' : Hp} (e : Same H H') : ∀ {v : V} {d : PyData}, Dp K H v d → Dp K H' v d
  | _, _, .non => .non
  | _, _, .bl b => .bl b
  | _, _, .int i => .int i
  | _, _, .str x => .str x
  | _, _, .lst h r => .lst (sqL_same e h) (dpAll_same e r)
  | _, _, .tup h r => .tup (sqT_same e h) (dpAll_same e r)
theorem dpAll_same {K : PySem.W.Frag} {H H' : Hp} (e : Same H H') : ∀ {vs : List V} {ds : List PyData}, DpAll K H vs ds → DpAll K H' vs ds
  | _, _, .nil => .nil
  | _, _, .cons h r => .cons (dp_same e h) (dpAll_same e r)
end
theorem dpI {K : PySem.W.Frag} {H : Hp} : ∀ {ns : List Int}, DpAll K H (ns.map V.int) (ns.map PyData.int)
  | [] => .nil
  | n :: r => .cons (.int n) dpI
theorem map_at {ns : List Int} {j : Nat} {x : V} (h : (ns.map V.int)[j]? = some x) : ∃ q, ns[j]? = some q ∧ x = .int q := by
  rw [List.getElem?_map] at h
  obtain ⟨q, h1, h2⟩ := Option.map_eq_some_iff.mp h
  exact ⟨q, h1, h2.symm⟩
theorem free_new {H : Hp} {p p2 : Addr} {o : HO} (n : H p = none) (n2 : (upd H p o) p2 = none) : H p2 = none := by
  by_cases e : p2 = p
  · rw [e]; exact n
  · rw [upd_ne e] at n2
    exact n2
/-- two items, one told before -/
theorem dp_two {K : PySem.W.Frag} {H : Hp} {r : V} {d : PyData} {k : Int} {p : Addr} (n : H p = none) (h : Dp K H r d) : Dp K (upd H p (.tup [r, .int k])) (.ref p) (.tuple [d, .int k]) :=
  .tup (SqT.of upd_same) (.cons (dp_same (same_new n) h) (.cons (.int _) .nil))
/-! ### comprehensions: one more walk -/
theorem in_tup {K : PySem.W.Frag} {a : Addr} {ys : List V} {Nx : Hp → Prop} {R : V → Hp → (Hp → Prop) → Prop} {H4 : Hp} (Pv : Nat → Hp → Prop) (h0 : Pv 0 H4) (hl : ∀ j H, j ≤ ys.length → Pv j H → SqT K H a ys)
    (hs : ∀ j y H, ys[j]? = some y → Pv j H → R y H (Pv (j + 1))) (hd : ∀ H, Pv ys.length H → Nx H) :
    ∃ W1 : Nat → Nat → Hp → Prop, (∃ m, W1 0 m H4) ∧ ∀ j k H, W1 j k H → ((Itt K a).stop j H ∧ Nx H) ∨ ((Itt K a).go j H ∧ ∃ Nx1 : Hp → Prop, (∀ H', Nx1 H' → ∃ k', k' < k ∧ W1 (j + 1) k' H') ∧ ∀ x H', (Itt K a).yld j H x H' → R x H' Nx1) := by
  refine ⟨fun i m H => m = ys.length - i ∧ i ≤ ys.length ∧ Pv i H, ⟨ys.length, by simp, Nat.zero_le _, h0⟩, ?_⟩
  rintro i m H ⟨rfl, hi, p⟩
  have q := hl i H hi p
  by_cases hlt : i < ys.length
  · refine .inr ⟨⟨ys, ys[i], q, by simp [hlt]⟩, Pv (i + 1), fun H' p' => ⟨ys.length - (i + 1), by omega, rfl, hlt, p'⟩, fun x H' y => ?_⟩
    obtain ⟨e, y⟩ := y
    subst e
    exact hs i x _ (y ys q) p
  · have e : i = ys.length := by omega
    subst e
    exact .inl ⟨⟨ys, q, Nat.le_refl _⟩, hd H p⟩
theorem takeS {α : Type} {l : List α} {i : Nat} {x : α} (h : l[i]? = some x) : l.take (i + 1) = l.take i ++ [x] := by
  rw [List.take_add_one, h]
  rfl
theorem ix_listK {X : Cx} {K : PySem.W.Frag} (h : X.K = K) : IxR X (rIxL K) := by
  subst h
  exact ix_list
theorem ix_tupK {X : Cx} {K : PySem.W.Frag} (h : X.K = K) : IxR X (rIxT K) := by
  subst h
  exact ix_tup
def rTupOf (K : PySem.W.Frag) : List V → Hp → VK → Prop := fun xs H Q => ∃ p ys, xs = [V.ref p] ∧ ((SqL K H p ys ∧ ∀ l, H l = none → Q (.ref l) (upd H l (.tup ys))) ∨ SqT K H p ys ∧ Q (.ref p) H)
theorem call_tupleK {X : Cx} {K : PySem.W.Frag} (h : X.K = K) : CallR X (.type "tuple") (rTupOf K) := by
  subst h
  exact call_tuple_of
theorem pi_tupK {X : Cx} {tg : Expr} {K : PySem.W.Frag} (h : X.K = K) {l : Expr} {tl : TE} (hl : PE X l tl) : PI X tg l (iTup K tl) := by
  subst h
  exact pi_tup hl
end LB

set_option maxRecDepth 100000
set_option maxHeartbeats 2000000
namespace LB
open PySem PySem.Spec PyProof.Rows L2 TL
/-! ### texts of paths -/
def num (n : Int) : Str := ((toString n : String) : Str)
theorem tl_num' {n : Int} (h : 0 ≤ n) : tl (num n) = numL n.toNat := by
  obtain ⟨k, rfl⟩ : ∃ k : Nat, n = (k : Int) := ⟨n.toNat, by omega⟩
  rw [Int.toNat_natCast]
  exact tl_num k
/-- ints of a path -/
def PathN (ns : List Int) : Prop := ns ≠ [] ∧ ns.length ≤ 8 ∧ ∀ n ∈ ns, 0 ≤ n ∧ n < 10000000
def pt (ns : List Int) : Str := Txt.join "." (ns.map num)
theorem num_len {n : Int} (h : 0 ≤ n ∧ n < 10000000) : (num n).length ≤ 7 := by
  rw [len_tl, tl_num' h.1]
  exact numL_len (by decide) (by
    have e : (10 : Nat) ^ 7 = 10000000 := by decide
    rw [e]
    omega)
theorem dot_tl : tl (("." : Str)) = [46] := by decide
theorem dot_small : ((("." : Str)).cps.all (· < 256)) = true := by decide +kernel
theorem nums_tl : ∀ {ns : List Int}, (∀ n ∈ ns, 0 ≤ n ∧ n < 10000000) → (ns.map num).map tl = ns.map fun n => numL n.toNat
  | [], _ => rfl
  | n :: r, h => by
    rw [List.map_cons, List.map_cons, List.map_cons, tl_num' (h n (List.mem_cons_self ..)).1, nums_tl fun k hk => h k (List.mem_cons_of_mem _ hk)]
theorem pt_tl {ns : List Int} (h : ∀ n ∈ ns, 0 ≤ n ∧ n < 10000000) : tl (pt ns) = joinL [46] (ns.map fun n => numL n.toNat) := by
  unfold pt
  rw [join_eq, tl_join, dot_tl, nums_tl h]
theorem pt_split {ns : List Int} (hp : PathN ns) : Txt.split (pt ns) "." = ns.map num :=
  split_join dot_tl dot_small (fun e => hp.1 (List.map_eq_nil_iff.mp e)) fun p h => by
    obtain ⟨n, hn, rfl⟩ := List.mem_map.mp h
    rw [tl_num' (hp.2.2 n hn).1]
    exact numL_free (by decide)
theorem nums_sum : ∀ {ns : List Int}, (∀ n ∈ ns, 0 ≤ n ∧ n < 10000000) → ((ns.map num).map (·.length)).sum ≤ 7 * ns.length
  | [], _ => Nat.le_refl _
  | n :: r, h => by
    have h1 := num_len (h n (List.mem_cons_self ..))
    have h2 := nums_sum fun k hk => h k (List.mem_cons_of_mem _ hk)
    rw [List.map_cons, List.map_cons, List.sum_cons, List.length_cons]
    omega
theorem pt_room {ns : List Int} (hp : PathN ns) : ((ns.map num).map (·.length)).sum + (ns.map num).length * (("." : Str)).length ≤ 16777216 := by
  have h1 := nums_sum hp.2.2
  have h2 := hp.2.1
  have h3 : (("." : Str)).length = 1 := by decide
  rw [h3, List.length_map]
  omega
theorem pt_len {ns : List Int} (hp : PathN ns) : (pt ns).length ≤ 64 := by
  have h1 := nums_sum hp.2.2
  have h2 := hp.2.1
  have h3 : (("." : Str)).length = 1 := by decide
  have h4 := StrLaws.join_length_le "." (ns.map num)
  unfold pt
  rw [join_eq]
  rw [h3, List.length_map] at h4
  omega
theorem joinL_snoc (S : List Nat) : ∀ (ps : List (List Nat)) (q : List Nat), ps ≠ [] → joinL S (ps ++ [q]) = joinL S ps ++ (S ++ q)
  | [], _, h => absurd rfl h
  | [p], q, _ => rfl
  | p :: p2 :: r, q, _ => by
    show p ++ (S ++ joinL S (p2 :: r ++ [q])) = p ++ (S ++ joinL S (p2 :: r)) ++ (S ++ q)
    rw [joinL_snoc S (p2 :: r) q (by simp)]
    simp
theorem pt_snoc {ns : List Int} {m : Int} (hp : PathN ns) (hm : 0 ≤ m) : pt ns ++ ("." : Str) ++ num m = Txt.join "." (ns.map num ++ [num m]) := by
  refine ext_tl ?_
  rw [tl_append, tl_append, pt_tl hp.2.2, dot_tl, tl_num' hm, join_eq, tl_join, dot_tl, List.map_append, nums_tl hp.2.2]
  show _ = joinL [46] (_ ++ [tl (num m)])
  rw [tl_num' hm, joinL_snoc _ _ _ (fun e => hp.1 (List.map_eq_nil_iff.mp e))]
  simp
theorem snoc_split {ns : List Int} {m : Int} (hp : PathN ns) (hm : 0 ≤ m) : Txt.split (pt ns ++ ("." : Str) ++ num m) "." = ns.map num ++ [num m] := by
  rw [pt_snoc hp hm]
  refine split_join dot_tl dot_small (by simp) fun p h => ?_
  rcases List.mem_append.mp h with h | h
  · obtain ⟨n, hn, rfl⟩ := List.mem_map.mp h
    rw [tl_num' (hp.2.2 n hn).1]
    exact numL_free (by decide)
  · rw [List.mem_singleton.mp h, tl_num' hm]
    exact numL_free (by decide)
/-! ### what writes a number -/
def wn (z : Str) : Bool := Txt.isdigit z && (decide (V.str z = V.str "0") || !Txt.startswith z "0")
def okp (z : Str) : Bool := wn z && decide ((z.length : Int) ≤ 7)
theorem numL_head : ∀ {n : Nat}, 0 < n → ∃ c r, numL n = c :: r ∧ c ≠ 48 := by
  intro n
  induction n using Nat.strongRecOn with
  | _ n ih =>
    intro h0
    by_cases h : n < 10
    · exact ⟨48 + n, [], numL_lt h, by omega⟩
    · obtain ⟨c, r, e, ne⟩ := ih (n / 10) (by omega) (by omega)
      exact ⟨c, r ++ [48 + n % 10], by rw [numL_step (by omega), e]; rfl, ne⟩
theorem digit_codes : ∀ c : Nat, c < 10 → Unicode.isDigit (48 + c) = true := by decide +kernel
theorem zero_tl : tl (("0" : Str)) = [48] := by decide
theorem starts0 (z : Str) : Txt.startswith z "0" = (match tl z with | [] => false | c :: _ => decide (c = 48)) := by
  have hl : (("0" : Str)).length = 1 := by decide
  unfold Txt.startswith
  rw [StrLaws.subAt_eq, hl, len_tl z]
  show (decide (0 + 1 ≤ (tl z).length) && ((List.drop 0 (tl z)).take 1 == tl ("0" : Str))) = _
  rw [zero_tl]
  cases tl z with
  | nil => rfl
  | cons c r =>
    show (decide (0 + 1 ≤ (c :: r).length) && ([c] == [48])) = decide (c = 48)
    have e : decide (0 + 1 ≤ (c :: r).length) = true := decide_eq_true (by simp)
    rw [e, Bool.true_and]
    by_cases h : c = 48
    · rw [h]; rfl
    · rw [decide_eq_false h]
      exact beq_false_of_ne fun y => h (List.cons.inj y).1
theorem isdigit_tl (z : Str) : Txt.isdigit z = (decide (0 < (tl z).length) && (tl z).all Unicode.isDigit) := by
  unfold Txt.isdigit
  rw [len_tl z, ← Array.all_toList]
theorem wn_num {n : Int} (h : 0 ≤ n) : wn (num n) = true := by
  unfold wn
  rw [isdigit_tl, starts0, tl_num' h]
  have hd : (numL n.toNat).all Unicode.isDigit = true := List.all_eq_true.mpr fun c hc => by
    have r := numL_digits n.toNat c hc
    have := digit_codes (c - 48) (by omega)
    rwa [show 48 + (c - 48) = c by omega] at this
  have hn : decide (0 < (numL n.toNat).length) = true := decide_eq_true (List.length_pos_iff.mpr (numL_ne _))
  rw [hd, hn, Bool.true_and, Bool.true_and]
  by_cases z : n = 0
  · subst z
    rfl
  · obtain ⟨c, r, e, ne⟩ := numL_head (n := n.toNat) (by omega)
    rw [e]
    show (_ || !decide (c = 48)) = true
    rw [decide_eq_false ne]
    simp
theorem okp_num {n : Int} (h : 0 ≤ n ∧ n < 10000000) : okp (num n) = true := by
  unfold okp
  have := num_len h
  rw [wn_num h.1, decide_eq_true (by omega)] <;> rfl
/-- no part of a path -/
def Bad (l : List Nat) : Prop := l = [] ∨ (∃ c ∈ l, c = 32 ∨ c = 97 ∨ c = 45 ∨ c = 44) ∨ ∃ d r, l = 48 :: d :: r
theorem bad_codes : Unicode.isDigit 32 = false ∧ Unicode.isDigit 97 = false ∧ Unicode.isDigit 45 = false ∧ Unicode.isDigit 44 = false := by decide +kernel
theorem wn_bad {z : Str} (h : Bad (tl z)) : wn z = false := by
  unfold wn
  rw [isdigit_tl]
  rcases h with h | ⟨c, hc, h⟩ | ⟨d, r, h⟩
  · rw [h]; rfl
  · have e : (tl z).all Unicode.isDigit = false := by
      rw [Bool.eq_false_iff]
      intro y
      have := List.all_eq_true.mp y c hc
      obtain ⟨b1, b2, b3, b4⟩ := bad_codes
      rcases h with rfl | rfl | rfl | rfl
      · rw [b1] at this; cases this
      · rw [b2] at this; cases this
      · rw [b3] at this; cases this
      · rw [b4] at this; cases this
    rw [e, Bool.and_false, Bool.false_and]
  · rw [starts0, h]
    have e : decide (V.str z = V.str "0") = false := decide_eq_false fun y => by
      have y := V.str.inj y
      rw [y, zero_tl] at h
      cases h
    rw [e]
    show (_ && (false || !decide (48 = 48))) = false
    simp
theorem okp_bad {z : Str} (h : Bad (tl z)) : okp z = false := by unfold okp; rw [wn_bad h, Bool.false_and]
/-! ### where a part is bad -/
theorem spl_mem {c : Nat} (hc : c ≠ 46) : ∀ (l acc : List Nat), c ∈ acc ++ l → ∃ p ∈ spl [46] 0 acc l, c ∈ p
  | [], acc, h => ⟨acc, by rw [spl_nil]; exact List.mem_singleton.mpr rfl, by simpa using h⟩
  | d :: r, acc, h => by
    by_cases e : d = 46
    · subst e
      rw [spl_hit (by rfl)]
      show ∃ p ∈ acc :: spl [46] 0 [] r, c ∈ p
      rcases List.mem_append.mp h with h | h
      · exact ⟨acc, List.mem_cons_self .., h⟩
      · rcases List.mem_cons.mp h with h | h
        · exact absurd h hc
        · obtain ⟨p, hp, q⟩ := spl_mem hc r [] (by simpa using h)
          exact ⟨p, List.mem_cons_of_mem _ hp, q⟩
    · rw [spl_miss (pre_of_head _ _ e)]
      exact spl_mem hc r (acc ++ [d]) (by simpa using h)
theorem spl_behind {r : List Nat} : ∀ (x acc : List Nat), ∀ p ∈ spl [46] 0 [] r, p ∈ spl [46] 0 acc (x ++ 46 :: r)
  | [], acc, p, h => by
    show p ∈ spl [46] 0 acc (46 :: r)
    rw [spl_hit (by rfl)]
    exact List.mem_cons_of_mem _ h
  | d :: x, acc, p, h => by
    show p ∈ spl [46] 0 acc (d :: (x ++ 46 :: r))
    by_cases e : d = 46
    · subst e
      rw [spl_hit (by rfl)]
      exact List.mem_cons_of_mem _ (spl_behind x [] p h)
    · rw [spl_miss (pre_of_head _ _ e)]
      exact spl_behind x _ p h
theorem spl_dot (y : List Nat) : [] ∈ spl [46] 0 [] (46 :: y) := by
  rw [spl_hit (by rfl)]
  exact List.mem_cons_self ..
/-- a part of the text is bad -/
def BadT (z : Str) : Prop := ∃ p ∈ Txt.split z ".", Bad (tl p)
theorem BadT.of {z : Str} {l : List Nat} (h : l ∈ spl [46] 0 [] (tl z)) (b : Bad l) : BadT z := by
  have e := split_spl z "." (by rw [dot_tl]; simp) (kind_ok dot_small)
  rw [dot_tl] at e
  rw [← e] at h
  obtain ⟨p, hp, rfl⟩ := List.mem_map.mp h
  exact ⟨p, hp, b⟩
theorem badSign {z : Str} {c : Nat} (h : c ∈ tl z) (hc : c = 32 ∨ c = 97 ∨ c = 45 ∨ c = 44) : BadT z := by
  obtain ⟨p, hp, q⟩ := spl_mem (c := c) (by rcases hc with rfl | rfl | rfl | rfl <;> decide) (tl z) [] (by simpa using h)
  exact .of hp (.inr (.inl ⟨c, q, hc⟩))
theorem badDots {z : Str} {x y : List Nat} (h : tl z = x ++ 46 :: 46 :: y) : BadT z := .of (l := []) (by rw [h]; exact spl_behind x [] [] (spl_dot y)) (.inl rfl)
theorem badEnd {z : Str} {x : List Nat} (h : tl z = x ++ [46]) : BadT z := .of (l := []) (by rw [h]; exact spl_behind x [] [] (by rw [spl_nil]; exact List.mem_singleton.mpr rfl)) (.inl rfl)
theorem badHead {z : Str} {y : List Nat} (h : tl z = 46 :: y) : BadT z := .of (l := []) (by rw [h]; exact spl_dot y) (.inl rfl)
theorem badNone : BadT ("" : Str) := .of (l := []) (by rw [show tl (("" : Str)) = [] by decide, spl_nil]; exact List.mem_singleton.mpr rfl) (.inl rfl)
theorem badZero {ns : List Int} (hp : PathN ns) : BadT (("0" : Str) ++ pt ns) := by
  obtain ⟨ne, _, h⟩ := hp
  match ns, ne, h with
  | n :: r, _, h =>
    have hd : tl (("0" : Str) ++ pt (n :: r)) = joinL [46] ((48 :: numL n.toNat) :: r.map fun n => numL n.toNat) := by
      rw [tl_append, zero_tl, pt_tl h, List.map_cons]
      cases r with
      | nil => rfl
      | cons k r => rfl
    have fr : ∀ p ∈ ((48 :: numL n.toNat) :: r.map fun n => numL n.toNat), 46 ∉ p := by
      intro p hp
      rcases List.mem_cons.mp hp with rfl | hp
      · intro y
        rcases List.mem_cons.mp y with y | y
        · cases y
        · exact numL_free (by decide) y
      · obtain ⟨k, _, rfl⟩ := List.mem_map.mp hp
        exact numL_free (by decide)
    have sj := spl_join (s := 46) (S := []) (parts := (48 :: numL n.toNat) :: r.map fun n => numL n.toNat) (by simp) fr
    obtain ⟨d, q, e⟩ : ∃ d q, numL n.toNat = d :: q := by
      cases hh : numL n.toNat with
      | nil => exact absurd hh (numL_ne _)
      | cons d q => exact ⟨d, q, rfl⟩
    exact .of (l := 48 :: numL n.toNat) (by rw [hd, sj]; exact List.mem_cons_self ..) (.inr (.inr ⟨d, q, by rw [e]⟩))
theorem okp_none {z : Str} (h : BadT z) : ((Txt.split z ".").map okp).all id = false := by
  obtain ⟨p, hp, b⟩ := h
  rw [Bool.eq_false_iff]
  intro y
  have := List.all_eq_true.mp y (okp p) (List.mem_map.mpr ⟨p, hp, rfl⟩)
  rw [okp_bad b] at this
  cases this
/-! ### is_above -/
theorem lay_ints : ∀ (ns : List Int), PyData.canLayAll0 (ns.map PyData.int) = true
  | [] => rfl
  | n :: r => by
    show (true && PyData.canLayAll0 (r.map PyData.int)) = true
    rw [lay_ints r] <;> rfl
theorem deep_ints : ∀ (ns : List Int), PyData.depthAll (ns.map PyData.int) = 0
  | [] => rfl
  | n :: r => by
    show max 0 (PyData.depthAll (r.map PyData.int)) = 0
    rw [deep_ints r] <;> rfl
theorem shaped_tup (ns : List Int) : SeqAt.shaped (.tuple (ns.map PyData.int)) = true := by
  show (PyData.canLayAll0 (ns.map PyData.int) && decide (PyData.depthAll (ns.map PyData.int) + 1 ≤ 64)) = true
  rw [lay_ints, deep_ints] <;> rfl
def ab (ns ms : List Int) : Bool := decide ((ns.length : Int) < ms.length) && PyData.eqv (.tuple ((ms.take ns.length).map .int)) (.tuple (ns.map .int))
theorem ab_child (ns : List Int) (i j : Int) : ab ns (ns ++ [i, j]) = true := by
  unfold ab
  have e : decide ((ns.length : Int) < (ns ++ [i, j]).length) = true := decide_eq_true (by rw [List.length_append]; show (ns.length : Int) < ((ns.length + 2 : Nat) : Int); omega)
  rw [e, Bool.true_and, List.take_left]
  exact SeqAt.eqv_refl _ (lay_ints ns)
theorem cutV_to {xs : List V} {k : Nat} (h : k ≤ xs.length) : cutV xs none (some (k : Int)) = xs.take k := by
  unfold cutV
  rw [HT.sIx_nat, HT.sIx_none, Nat.min_eq_left h] <;> rfl
end LB

set_option maxRecDepth 100000
set_option maxHeartbeats 4000000
namespace LB
open PySem PySem.Spec PyProof.Rows L2 TL
structure NamesT (mg : Str → Option Value) : Prop extends Names mg where
  tuple : mg "tuple" = none
  str : mg "str" = none
  all : mg "all" = none
section
variable {P : Program} {w : World} {K : PySem.W.Frag} {mg : Str → Option Value} {base : Heap}
def spWN (K : PySem.W.Frag) : Sp := fun vs H Q _ => ∃ z, vs = [.str z] ∧ Q (.bl (wn z)) H
theorem scWN : FnScope ["text"] ["text"] (defScope sWritesNumber) := ⟨rfl, rfl, rfl, by decide +kernel, rfl, by decide +kernel, by decide +kernel⟩
theorem ok_wn {f : Addr} {fd : FuncData} (F : Fun K "writes_number" "writes_number" sWritesNumber f fd) : FnOk P w K mg base CX0 1 f fd ["text"] (spWN K) := by
  refine F.ok scWN (fun vs H Q E h => ?_) (fun cdv A outer s H vs Q E hr h => ?_)
  · obtain ⟨z, rfl, _⟩ := h
    rfl
  · obtain ⟨z, rfl, q⟩ := h
    have nd := scWN.nd
    refine ⟨_, (pss_one (ps_ret (pe_and (pe_m0 PySem.F.slot_str_isdigit PySem.F.type_str_isdigit mt_isdigit (pv 0)) (pe_one (pe_or (pe_cmpR op_eq (pv 0) pe_str (nomark _)) (pe_one (pe_not (pe_m1 PySem.F.slot_str_startswith PySem.F.type_str_startswith mt_startswith (pv 0) pe_str)))))))), ?_⟩
    unfold wn at q
    refine ⟨_, rfl, ⟨_, rfl⟩, z, rfl, rfl, trivial, _, rfl, ?_⟩
    cases hd : Txt.isdigit z with
    | false =>
      rw [hd] at q
      exact q
    | true =>
      rw [hd, Bool.true_and] at q
      refine ⟨_, rfl, rfl, _, rfl, ?_⟩
      cases hz : decide (V.str z = V.str "0") with
      | true =>
        rw [hz] at q
        exact q
      | false =>
        rw [hz, Bool.false_or] at q
        exact ⟨_, rfl, ⟨_, rfl⟩, _, _, rfl, rfl, _, rfl, q⟩
/-- a path's text -/
def spWrite (K : PySem.W.Frag) : Sp := fun vs H Q _ => ∃ (a : Addr) (ns : List Int), vs = [.ref a] ∧ SqT K H a (ns.map V.int) ∧ PathN ns ∧ ∀ H', Same H H' → Q (.str (pt ns)) H'
theorem scWP : FnScope ["path", "number"] ["path"] (defScope sWritePath) := ⟨rfl, rfl, rfl, by decide +kernel, rfl, by decide +kernel, by decide +kernel⟩
theorem log_path {i : Int} (h : 0 ≤ i ∧ i < 10000000) : i.natAbs.log2 < 1920 := log_small (Nat.lt_trans (show i.natAbs < 10000000 by omega) (by decide))
theorem ok_write {f : Addr} {fd : FuncData} (F : Fun K "write_path" "write_path" sWritePath f fd) (M : NamesT mg) : FnOk P w K mg base CX0 1 f fd ["path"] (spWrite K) := by
  refine F.ok scWP (fun vs H Q E h => ?_) (fun cdv A outer s H vs Q E hr h => ?_)
  · obtain ⟨a, ns, rfl, _⟩ := h
    rfl
  · obtain ⟨a, ns, rfl, sq, hp, q⟩ := h
    have nd := scWP.nd
    refine ⟨_, (pss_one (ps_ret (pe_join pe_str (pe_lc (own := [("number", 1)]) (g := (gName 1)) rfl nd (pi_tup (pv 0)) (blkOk_by (N := ["path", "number"]) (sc := (defScope sWritePath)) (by decide +kernel)) (fun _ _ _ _ _ => (pg_name (i := 1) nd rfl (Or.inl rfl))) (fun _ _ _ _ _ => pts_nil) (fun _ _ _ _ _ => (pe_callTy call_str_int (by rfl) M.str (by decide +kernel) (pa_cons (pv 1) pa_nil))))))), ?_⟩
    refine ⟨⟨_, rfl⟩, ?_⟩
    refine ⟨_, rfl, a, rfl, ⟨_, sq⟩, fun D nD => ?_⟩
    refine lc_tup (xs := ns.map V.int) (fun j H' => Same H H' ∧ H' D = some (.lst (((ns.take j).map num).map V.str))) ⟨same_new nD, upd_same⟩ (fun j H' _ h => sqT_same h.1 sq) ?_ ?_
    · rintro j x H3 hx ⟨S3, hD⟩
      obtain ⟨n, hn, rfl⟩ := map_at hx
      have hb := hp.2.2 n (List.mem_of_getElem? hn)
      refine ⟨rfl, _, rfl, n, rfl, log_path hb, _, hD, ?_, same_upd S3 nD, ?_⟩
      · rw [List.length_map, List.length_map, List.length_take]
        have := hp.2.1
        exact small_line (by omega)
      · rw [takeS hn, List.map_append, List.map_append]
        exact upd_same
    · rintro H3 ⟨S3, hD⟩
      rw [List.length_map, List.take_length] at hD
      exact ⟨_, _, _, rfl, rfl, .inl (SqL.of hD), pt_room hp, q _ S3⟩
end
end LB

set_option maxRecDepth 100000
set_option maxHeartbeats 4000000
namespace LB
open PySem PySem.Spec PyProof.Rows L2 TL
section
variable {P : Program} {w : World} {K : PySem.W.Frag} {mg : Str → Option Value} {base : Heap}
def spRead (K : PySem.W.Frag) : Sp := fun vs H Q _ => ∃ z, vs = [.str z] ∧ z.length ≤ 1000 ∧
  ((((Txt.split z ".").map okp).all id = false ∧ ∀ H', Same H H' → Q .non H') ∨
    ∃ ns : List Int, Txt.split z "." = ns.map num ∧ (∀ n ∈ ns, 0 ≤ n ∧ n < 10000000) ∧ ∀ (p : Addr) (H' : Hp), Same H H' → H' p = some (.tup (ns.map V.int)) → Q (.ref p) H')
theorem scRP : FnScope ["text", "numbers", "number"] ["text"] (defScope sReadPath) := ⟨rfl, rfl, rfl, by decide +kernel, rfl, by decide +kernel, by decide +kernel⟩
theorem map_atS {ns : List Str} {j : Nat} {x : V} (h : (ns.map V.str)[j]? = some x) : ∃ q, ns[j]? = some q ∧ x = .str q := by
  rw [List.getElem?_map] at h
  obtain ⟨q, h1, h2⟩ := Option.map_eq_some_iff.mp h
  exact ⟨q, h1, h2.symm⟩
theorem le_sum : ∀ {ps : List Str} {p : Str}, p ∈ ps → p.length ≤ (ps.map (·.length)).sum
  | q :: r, p, h => by
    rw [List.map_cons, List.sum_cons]
    rcases List.mem_cons.mp h with rfl | h
    · omega
    · have := le_sum h
      omega
theorem part_short {z : Str} (hz : z.length ≤ 1000) {p : Str} (hp : p ∈ Txt.split z ".") : p.length ≤ sizeLine := by
  have h1 := le_sum hp
  have h2 := split_weight z "." (by decide)
  exact Nat.le_trans (show p.length ≤ 1001 by omega) (by decide)
theorem call_intK {X : Cx} : CallR X (.type "int") (fun xs H Q => ∃ a n, xs = [.str a] ∧ PySem.intText? a = some n ∧ a.length ≤ 640 ∧ Q (.int n) H) := call_int_str
theorem num_int {n : Int} (h : 0 ≤ n ∧ n < 10000000) : PySem.intText? (num n) = some n := by
  obtain ⟨k, rfl⟩ : ∃ k : Nat, n = (k : Int) := ⟨n.toNat, by omega⟩
  refine int_num (Nat.le_trans (numL_len (k := 7) (by decide) ?_) (by decide))
  have e : (10 : Nat) ^ 7 = 10000000 := by decide
  rw [e]
  omega
theorem ok_read {f fW : Addr} {fd fdW : FuncData} (F : Fun K "read_path" "read_path" sReadPath f fd) (M : NamesT mg) {tD : Tok} (hDM : mg "DIGITS_MOST" = some (.int 7 tD))
    (FW : Fun K "writes_number" "writes_number" sWritesNumber fW fdW) (mW : mg "writes_number" = some (.ref fW)) (bW : Binds K fdW ["text"] []) : FnOk P w K mg base CX0 2 f fd ["text"] (spRead K) := by
  have GW : FnOk P w K mg base CX0 1 fW fdW ["text"] (spWN K) := ok_wn FW
  have kW := FW.kp
  refine F.ok scRP (fun vs H Q E h => ?_) (fun cdv A outer s H vs Q E hr h => ?_)
  · obtain ⟨z, rfl, _⟩ := h
    rfl
  · obtain ⟨z, rfl, hz, q⟩ := h
    have nd := scRP.nd
    refine ⟨_, (pss_cons (ps_set (i := 1) nd rfl (Or.inl rfl) (pe_split (pv 0) pe_str))
        (pss_cons (ps_if (pt_not (pt_val (pe_callB (cr_all rfl) (by rfl) M.all (by decide +kernel) (pa_cons (pe_lc (own := [("number", 2)]) (g := (gName 2)) rfl nd (pi_list (pv 1)) (blkOk_by (N := ["text", "numbers", "number"]) (sc := (defScope sReadPath)) (by decide +kernel)) (fun _ _ _ _ _ => (pg_name (i := 2) nd rfl (Or.inl rfl))) (fun _ _ _ _ _ => pts_nil) (fun _ _ _ _ _ => (pe_and (pe_call GW (hr.mono (by decide)) rfl mW kW bW .nil pass0 (pa_cons (pv 2) pa_nil)) (pe_one (pe_cmpR op_le (pe_callB call_lenS (by rfl) M.len PySem.boot_len (pa_cons (pv 2) pa_nil)) (pe_glob (v := .int 7) rfl hDM ⟨_, rfl⟩) (nomark _)))))) pa_nil)))) (pss_one (ps_ret pe_non)) pss_nil)
        (pss_one (ps_ret (pe_callTy call_tuple_of (by rfl) M.tuple (by decide +kernel) (pa_cons (pe_lc (own := [("number", 2)]) (g := (gName 2)) rfl nd (pi_list (pv 1)) (blkOk_by (N := ["text", "numbers", "number"]) (sc := (defScope sReadPath)) (by decide +kernel)) (fun _ _ _ _ _ => (pg_name (i := 2) nd rfl (Or.inl rfl))) (fun _ _ _ _ _ => pts_nil) (fun _ _ _ _ _ => (pe_callTy call_intK (by rfl) M.int (by decide +kernel) (pa_cons (pv 2) pa_nil)))) pa_nil)))))), ?_⟩
    -- numbers = text.split('.')
    refine ⟨_, rfl, ⟨_, rfl⟩, z, _, rfl, rfl, rfl, Nat.le_trans (show z.length + 2 ≤ 1002 by omega) (by decide), fun l nl => ?_⟩
    have hl : upd H l (.lst ((Txt.split z ".").map V.str)) l = some (.lst ((Txt.split z ".").map V.str)) := upd_same
    have S0 := same_new (o := .lst ((Txt.split z ".").map V.str)) nl
    have hn : (Txt.split z ".").length ≤ 1002 := Nat.le_trans (PyProof.Rows.split_le z ".") (by omega)
    generalize upd H l (.lst ((Txt.split z ".").map V.str)) = H1 at hl S0
    have part_len := fun p hp => part_short (z := z) hz (p := p) hp
    generalize Txt.split z "." = ps at q hl hn part_len
    refine ⟨_, rfl, l, rfl, ⟨_, SqL.of hl⟩, fun D nD => ?_⟩
    refine lc_list (xs := ps.map V.str) (fun j H' => Same H1 H' ∧ H' D = some (.lst (((ps.take j).map okp).map V.bl))) ⟨same_new nD, upd_same⟩ (fun j H' _ h => sqL_same h.1 (SqL.of hl)) ?_ ?_
    · rintro j x H3 hx ⟨S3, hD⟩
      obtain ⟨p, hp, rfl⟩ := map_atS hx
      have more : upd H3 D (.lst (((ps.take j).map okp).map V.bl ++ [V.bl (okp p)])) D = some (.lst (((ps.take (j + 1)).map okp).map V.bl)) := by
        rw [takeS hp, List.map_append, List.map_append]
        exact upd_same
      have size : (((ps.take j).map okp).map V.bl).length < sizeLine := by
        rw [List.length_map, List.length_map, List.length_take]
        exact small_line (by omega)
      refine ⟨rfl, _, rfl, _, rfl, _, rfl, ?_⟩
      cases hw : wn p with
      | false =>
        have e : okp p = false := by unfold okp; rw [hw, Bool.false_and]
        rw [e] at more
        exact ⟨_, hD, size, same_upd S3 nD, more⟩
      | true =>
        have e : okp p = decide ((p.length : Int) ≤ 7) := by unfold okp; rw [hw, Bool.true_and]
        rw [e] at more
        exact ⟨_, rfl, _, rfl, part_len p (List.mem_of_getElem? hp), _, _, rfl, rfl, _, hD, size, same_upd S3 nD, more⟩
    · rintro H3 ⟨S3, hD⟩
      rw [List.length_map, List.take_length] at hD
      refine ⟨D, _, rfl, SqL.of hD, _, rfl, ?_⟩
      rcases q with ⟨ha, q⟩ | ⟨ns, rfl, hns, q⟩
      · rw [ha]
        exact q _ (S0.trans S3)
      · have ha : ((ns.map num).map okp).all id = true := List.all_eq_true.mpr fun b hb => by
          obtain ⟨p, hp, rfl⟩ := List.mem_map.mp hb
          obtain ⟨n, hn, rfl⟩ := List.mem_map.mp hp
          exact okp_num (hns n hn)
        rw [ha]
        refine ⟨_, rfl, l, rfl, ⟨_, sqL_same S3 (SqL.of hl)⟩, fun D2 nD2 => ?_⟩
        refine lc_list (xs := (ns.map num).map V.str) (fun j H' => Same H3 H' ∧ H' D2 = some (.lst ((ns.take j).map V.int))) ⟨same_new nD2, upd_same⟩ (fun j H' _ h => sqL_same (S3.trans h.1) (SqL.of hl)) ?_ ?_
        · rintro j x H4 hx ⟨S4, hD2⟩
          obtain ⟨p, hp, rfl⟩ := map_atS hx
          rw [List.getElem?_map] at hp
          obtain ⟨n, hn, rfl⟩ := Option.map_eq_some_iff.mp hp
          have hb := hns n (List.mem_of_getElem? hn)
          refine ⟨rfl, _, rfl, _, n, rfl, num_int hb, Nat.le_trans (num_len hb) (by decide), _, hD2, ?_, same_upd S4 nD2, ?_⟩
          · rw [List.length_map, List.length_take]
            rw [List.length_map] at *
            exact small_line (by omega)
          · rw [takeS hn, List.map_append]
            exact upd_same
        · rintro H4 ⟨S4, hD2⟩
          rw [List.length_map, List.length_map, List.take_length] at hD2
          refine ⟨D2, _, rfl, .inl ⟨SqL.of hD2, fun t nt => ?_⟩⟩
          exact q t _ (((S0.trans S3).trans S4).trans (same_new nt)) upd_same
end
end LB

set_option maxRecDepth 100000
set_option maxHeartbeats 4000000
namespace LB
open PySem PySem.Spec PyProof.Rows L2 TL
theorem szTwo' : (2 : Nat) ≤ sizeLine := by decide
section
variable {P : Program} {w : World} {K : PySem.W.Frag} {mg : Str → Option Value} {base : Heap}
def spAbove (K : PySem.W.Frag) : Sp := fun vs H Q _ => ∃ (a b : Addr) (ns ms : List Int), vs = [.ref a, .ref b] ∧ SqT K H a (ns.map V.int) ∧ SqT K H b (ms.map V.int) ∧ ns ≠ [] ∧ ∀ H', Same H H' → Q (.bl (ab ns ms)) H'
theorem scAb : FnScope ["one", "two"] ["one", "two"] (defScope sIsAbove) := ⟨rfl, rfl, rfl, by decide +kernel, rfl, by decide +kernel, by decide +kernel⟩
theorem not_whole {xs : List V} {k : Nat} (h : k < xs.length) : ¬ (HT.sIx xs.length 0 none = 0 ∧ HT.sIx xs.length xs.length (some (k : Int)) = xs.length) := by
  rintro ⟨_, e⟩
  rw [HT.sIx_nat, Nat.min_eq_left (Nat.le_of_lt h)] at e
  omega
theorem ok_above {f : Addr} {fd : FuncData} (F : Fun K "is_above" "is_above" sIsAbove f fd) (M : NamesT mg) : FnOk P w K mg base CX0 1 f fd ["one", "two"] (spAbove K) := by
  refine F.ok scAb (fun vs H Q E h => ?_) (fun cdv A outer s H vs Q E hr h => ?_)
  · obtain ⟨a, b, ns, ms, rfl, _⟩ := h
    rfl
  · obtain ⟨a, b, ns, ms, rfl, s1, s2, hne, q⟩ := h
    have nd := scAb.nd
    refine ⟨_, (pss_one (ps_ret (pe_and (pe_cmpR op_lt (pe_callB call_len_seq (by rfl) M.len PySem.boot_len (pa_cons (pv 0) pa_nil)) (pe_callB call_len_seq (by rfl) M.len PySem.boot_len (pa_cons (pv 1) pa_nil)) (nomark _)) (pe_one (pe_cmpR (op_eqD hr.units) (pe_slice sl_tupA (pv 1) po_none (po_some (pe_callB call_len_seq (by rfl) M.len PySem.boot_len (pa_cons (pv 0) pa_nil)))) (pv 0) (nomark _)))))), ?_⟩
    refine ⟨_, rfl, a, _, rfl, .inr s1, _, rfl, b, _, rfl, .inr s2, _, _, rfl, rfl, _, rfl, ?_⟩
    rw [List.length_map, List.length_map]
    refine ite2 (fun c => ?_) (fun c => ?_)
    · have lt := of_decide_eq_true c
      refine ⟨_, rfl, _, rfl, a, _, rfl, .inr s1, _, rfl, b, _, rfl, s2, ?_, ?_⟩
      · rintro ⟨_, e⟩
        rw [List.length_map, List.length_map, HT.sIx_nat, Nat.min_eq_left (by omega)] at e
        omega
      · intro _ t nt
        have ec : cutV (ms.map V.int) none (some ((ns.map V.int).length : Int)) = (ms.take ns.length).map V.int := by
          rw [List.length_map, cutV_to (by rw [List.length_map]; omega), List.map_take]
        rw [ec]
        refine ⟨_, rfl, .tuple ((ms.take ns.length).map .int), .tuple (ns.map .int), .tup (SqT.of upd_same) dpI, .tup (sqT_same (same_new nt) s1) dpI, shaped_tup _, shaped_tup _, ?_⟩
        have e : ab ns ms = PyData.eqv (.tuple ((ms.take ns.length).map .int)) (.tuple (ns.map .int)) := by unfold ab; rw [c, Bool.true_and]
        rw [← e]
        exact q _ (same_new nt)
    · have e : ab ns ms = false := by unfold ab; rw [Bool.eq_false_iff.mpr c, Bool.false_and]
      have q := q H (Same.refl H)
      rw [e] at q
      exact q
def spChild (K : PySem.W.Frag) : Sp := fun vs H Q _ => ∃ (a : Addr) (ns : List Int) (i j : Int), vs = [.ref a, .int i, .int j] ∧ SqT K H a (ns.map V.int) ∧ ns ≠ [] ∧ ns.length ≤ 1000 ∧
  ∀ p H', Same H H' → H' p = some (.tup ((ns ++ [i, j]).map V.int)) → Q (.ref p) H'
theorem scCh : FnScope ["path", "scope", "part"] ["path", "scope", "part"] (defScope sChildPath) := ⟨rfl, rfl, rfl, by decide +kernel, rfl, by decide +kernel, by decide +kernel⟩
theorem ok_child {f : Addr} {fd : FuncData} (F : Fun K "child_path" "child_path" sChildPath f fd) : FnOk P w K mg base CX0 1 f fd ["path", "scope", "part"] (spChild K) := by
  refine F.ok scCh (fun vs H Q E h => ?_) (fun cdv A outer s H vs Q E hr h => ?_)
  · obtain ⟨a, ns, i, j, rfl, _⟩ := h
    rfl
  · obtain ⟨a, ns, i, j, rfl, s1, hne, hl, q⟩ := h
    have nd := scCh.nd
    refine ⟨_, (pss_one (ps_ret (pe_op op_catT (pv 0) (pe_tup (pa_cons (pv 1) (pa_cons (pv 2) pa_nil)))))), ?_⟩
    refine ⟨_, rfl, _, rfl, _, rfl, szTwo', fun t nt => ?_⟩
    refine ⟨a, t, ns.map V.int, _, rfl, rfl, sqT_same (same_new nt) s1, SqT.of upd_same, fun e => hne (List.map_eq_nil_iff.mp e), ?_, fun e => (by cases e), fun _ p hp => ?_⟩
    · rw [List.length_map]
      exact Nat.le_trans (show ns.length + 2 ≤ 1002 by omega) (by decide)
    · exact q p _ ((same_new nt).trans (same_new hp)) (by rw [List.map_append]; exact upd_same)
end
end LB

set_option maxRecDepth 100000
set_option maxHeartbeats 4000000
namespace LB
open PySem PySem.Spec PyProof.Rows L2 TL
section
variable {P : Program} {w : World} {K : PySem.W.Frag} {mg : Str → Option Value} {base : Heap}
/-- a drawn path: ints below a million -/
def PathD (ns : List Int) : Prop := ns ≠ [] ∧ ns.length ≤ 7 ∧ ∀ n ∈ ns, 0 ≤ n ∧ n < 1000000
theorem PathD.n {ns : List Int} (h : PathD ns) : PathN ns := ⟨h.1, by have := h.2.1; omega, fun n hn => by have := h.2.2 n hn; omega⟩
def spLPath (K : PySem.W.Frag) : Sp := fun vs H Q _ => ∃ b : Addr, vs = [.ref b] ∧ Box H b ∧ ∀ (ns : List Int) (p : Addr) (H' : Hp), PathD ns → Box H' b → But b H H' → SqT K H' p (ns.map V.int) → Q (.ref p) H'
theorem scLP : FnScope ["box", "path", "turn"] ["box"] (defScope sLPath) := ⟨rfl, rfl, rfl, by decide +kernel, rfl, by decide +kernel, by decide +kernel⟩
theorem ok_lpath {f fD : Addr} {fd fdD : FuncData} (F : Fun K "_law_path" "_law_path" sLPath f fd) (M : NamesT mg) (FD : Fun K "_law_draw" "_law_draw" sDraw fD fdD) (mD : mg "_law_draw" = some (.ref fD)) (bD : Binds K fdD ["box", "many"] []) :
    FnOk P w K mg base CX0 2 f fd ["box"] (spLPath K) := by
  have GD : FnOk P w K mg base CX0 1 fD fdD ["box", "many"] (spDraw K) := ok_draw FD M.toNames
  have kD := FD.kp
  refine F.ok scLP (fun vs H Q E h => ?_) (fun cdv A outer s H vs Q E hr h => ?_)
  · obtain ⟨b, rfl, _⟩ := h
    rfl
  · obtain ⟨b, rfl, B, q⟩ := h
    have nd := scLP.nd
    refine ⟨_, (pss_cons (ps_set (i := 1) nd rfl (Or.inl rfl) (pe_lst pa_nil))
        (pss_cons (ps_for PassesOwn.never rfl (pi_range1 (by rfl) M.range (pa_cons (pe_op op_add pe_int (pe_call GD (hr.mono (by decide)) rfl mD kD bD .nil pass0 (pa_cons (pv 0) (pa_cons pe_int pa_nil)))) pa_nil)) (pg_name (i := 2) nd rfl (Or.inl rfl)) (pss_one (ps_expr (pe_bm PySem.F.plainAttrs_list PySem.F.slot_list_append PySem.F.type_list_append mt_append (pv 1) (pa_cons (pe_ix ix_list (pe_lst (pa_cons (pe_call GD (hr.mono (by decide)) rfl mD kD bD .nil pass0 (pa_cons (pv 0) (pa_cons pe_int pa_nil))) (pa_cons (pe_call GD (hr.mono (by decide)) rfl mD kD bD .nil pass0 (pa_cons (pv 0) (pa_cons pe_int pa_nil))) (pa_cons (pe_op op_add (pe_op op_mul (pe_call GD (hr.mono (by decide)) rfl mD kD bD .nil pass0 (pa_cons (pv 0) (pa_cons pe_int pa_nil))) pe_int) (pe_call GD (hr.mono (by decide)) rfl mD kD bD .nil pass0 (pa_cons (pv 0) (pa_cons pe_int pa_nil)))) pa_nil)))) (pe_call GD (hr.mono (by decide)) rfl mD kD bD .nil pass0 (pa_cons (pv 0) (pa_cons pe_int pa_nil))) (fun _ _ => rfl)) pa_nil)))))
        (pss_one (ps_ret (pe_callTy call_tuple_of (by rfl) M.tuple (by decide +kernel) (pa_cons (pv 1) pa_nil)))))), ?_⟩
    refine ⟨(by show 0 ≤ sizeLine; decide), fun p np => ?_⟩
    have pb : p ≠ b := B.apart np
    refine ⟨_, rfl, b, 7, rfl, B.new np, by decide, fun m H1 m0 m1 B1 U1 => ?_⟩
    have hl := U1.k p _ pb upd_same
    have U1 := (But.of (same_new np)).trans U1
    refine ⟨_, _, rfl, rfl, 1 + m, rfl, by omega, by omega, ?_⟩
    refine for_range (lo := 0) (n := (1 + m).toNat) (fun j σ H' => ∃ (ns : List Int) (v : Option V), σ = [some (.ref b), some (.ref p), v] ∧ Box H' b ∧ But b H H' ∧ H' p = some (.lst (ns.map V.int)) ∧ ns.length = j ∧ ∀ n ∈ ns, 0 ≤ n ∧ n < 1000000)
      ⟨[], none, rfl, B1, U1, hl, rfl, fun n h => nomatch h⟩ ?_ ?_
    · rintro j σ H2 hj ⟨ns, v, rfl, B2, U2, hp, hlen, hns⟩
      refine ⟨_, rfl, .inl ⟨rfl, _, SqL.of hp⟩, ?_⟩
      refine ⟨_, rfl, b, 3, rfl, B2, by decide, fun k1 H3 a1 a2 B3 U3 => ?_⟩
      refine ⟨_, rfl, b, 12, rfl, B3, by decide, fun k2 H4 b1 b2 B4 U4 => ?_⟩
      refine ⟨_, rfl, b, 1000, rfl, B4, by decide, fun k3 H5 c1 c2 B5 U5 => ?_⟩
      refine ⟨_, _, rfl, rfl, .inr ⟨by decide, by decide⟩, ?_⟩
      refine ⟨_, rfl, b, 1000, rfl, B5, by decide, fun k4 H6 d1 d2 B6 U6 => ?_⟩
      refine ⟨_, _, rfl, rfl, (by show 3 ≤ sizeLine; decide), fun l nl => ?_⟩
      refine ⟨_, rfl, b, 3, rfl, B6.new nl, by decide, fun r H7 r0 r1 B7 U7 => ?_⟩
      have hlst := B6.keepL nl U7
      obtain ⟨x, hx, x0, x1⟩ : ∃ x : Int, atI [V.int k1, V.int k2, V.int (k3 * 1000 + k4)] r = some (.int x) ∧ 0 ≤ x ∧ x < 1000000 := by
        have c : r = 0 ∨ r = 1 ∨ r = 2 := by omega
        rcases c with rfl | rfl | rfl
        · exact ⟨_, rfl, by omega, by omega⟩
        · exact ⟨_, rfl, by omega, by omega⟩
        · exact ⟨_, rfl, by omega, by omega⟩
      refine ⟨l, _, _, _, rfl, rfl, SqL.of hlst, hx, ?_⟩
      have U := ((((U3.trans U4).trans U5).trans U6).new (o := .lst [V.int k1, V.int k2, V.int (k3 * 1000 + k4)]) nl).trans U7
      have hp7 := U.k p _ pb hp
      obtain ⟨B8, U8⟩ := Box.put (o := .lst (ns.map V.int ++ [V.int x])) B B7 (U2.trans U) np
      refine ⟨_, _, _, rfl, rfl, hp7, (by rw [List.length_map]; exact small_line (by omega)), ?_⟩
      refine ⟨ns ++ [x], _, rfl, B8, U8, upd_same.trans (congrArg some lst_more), by rw [List.length_append, hlen]; rfl, ?_⟩
      · intro n hn
        rcases List.mem_append.mp hn with hn | hn
        · exact hns n hn
        · rw [List.mem_singleton.mp hn]
          exact ⟨x0, x1⟩
    · rintro σ H2 ⟨ns, v, rfl, B2, U2, hp, hlen, hns⟩
      refine ⟨_, rfl, p, _, rfl, .inl ⟨SqL.of hp, fun t nt => ?_⟩⟩
      exact q ns t _ ⟨fun e => by rw [e] at hlen; have : (0 : Nat) = (1 + m).toNat := hlen; omega, by omega, hns⟩ (B2.new nt) (U2.new nt) (SqT.of upd_same)
end
end LB

set_option maxRecDepth 100000
set_option maxHeartbeats 8000000
namespace LB
open PySem PySem.Spec PyProof.Rows L2 TL
theorem cutS_len (z : Str) (lo hi : Option Int) (n : Nat) (h : z.length ≤ n) : (cutS z lo hi).length ≤ n := Nat.le_trans (cutS_length z lo hi) h
theorem lens : ((" " : Str)).length = 1 ∧ (("0" : Str)).length = 1 ∧ (("." : Str)).length = 1 ∧ ((".." : Str)).length = 2 ∧ (("a" : Str)).length = 1 ∧ (("-" : Str)).length = 1 ∧ (("," : Str)).length = 1 := by decide
theorem szA {n : Nat} (h : n ≤ 1000) : n ≤ sizeLine := Nat.le_trans h (by decide)
theorem in_mid {x y z : Str} {c : Nat} (h : c ∈ tl y) : c ∈ tl (x ++ y ++ z) := by
  rw [tl_append, tl_append]
  exact List.mem_append_left _ (List.mem_append_right _ h)
section
variable {P : Program} {w : World} {K : PySem.W.Frag} {mg : Str → Option Value} {base : Heap}
def spNear (K : PySem.W.Frag) : Sp := fun vs H Q _ => ∃ (b : Addr) (ns : List Int), vs = [.ref b, .str (pt ns)] ∧ Box H b ∧ PathN ns ∧
  ∀ (z : Str) (H' : Hp), BadT z → z.length ≤ 200 → Box H' b → But b H H' → Q (.str z) H'
theorem scNear : FnScope ["box", "text", "at"] ["box", "text"] (defScope sLNear) := ⟨rfl, rfl, rfl, by decide +kernel, rfl, by decide +kernel, by decide +kernel⟩
theorem ok_near {f fD : Addr} {fd fdD : FuncData} (F : Fun K "_law_near" "_law_near" sLNear f fd) (M : NamesT mg) (FD : Fun K "_law_draw" "_law_draw" sDraw fD fdD) (mD : mg "_law_draw" = some (.ref fD)) (bD : Binds K fdD ["box", "many"] []) :
    FnOk P w K mg base CX0 2 f fd ["box", "text"] (spNear K) := by
  have GD : FnOk P w K mg base CX0 1 fD fdD ["box", "many"] (spDraw K) := ok_draw FD M.toNames
  have kD := FD.kp
  refine F.ok scNear (fun vs H Q E h => ?_) (fun cdv A outer s H vs Q E hr h => ?_)
  · obtain ⟨b, ns, rfl, _⟩ := h
    rfl
  · obtain ⟨b, ns, rfl, B, hp, q⟩ := h
    have nd := scNear.nd
    have hl := pt_len hp
    refine ⟨_, (pss_cons (ps_set (i := 2) nd rfl (Or.inl rfl) (pe_call GD (hr.mono (by decide)) rfl mD kD bD .nil pass0 (pa_cons (pv 0) (pa_cons (pe_op op_add (pe_callB call_lenS (by rfl) M.len PySem.boot_len (pa_cons (pv 1) pa_nil)) pe_int) pa_nil))))
        (pss_one (ps_ret (pe_ix ix_list (pe_lst (pa_cons (pe_op op_add_str (pe_op op_add_str (pe_slice sl_str (pv 1) po_none (po_some (pv 2))) pe_str) (pe_slice sl_str (pv 1) (po_some (pv 2)) po_none)) (pa_cons (pe_op op_add_str pe_str (pv 1)) (pa_cons (pe_op op_add_str (pv 1) pe_str) (pa_cons (pe_op op_add_str pe_str (pv 1)) (pa_cons (pe_op op_add_str (pe_op op_add_str (pe_slice sl_str (pv 1) po_none (po_some (pv 2))) pe_str) (pe_slice sl_str (pv 1) (po_some (pv 2)) po_none)) (pa_cons pe_str (pa_cons (pe_op op_add_str (pv 1) pe_str) (pa_cons (pe_op op_add_str pe_str (pv 1)) (pa_cons (pe_op op_add_str (pe_op op_add_str (pe_slice sl_str (pv 1) po_none (po_some (pv 2))) pe_str) (pe_slice sl_str (pv 1) (po_some (pv 2)) po_none)) pa_nil)))))))))) (pe_call GD (hr.mono (by decide)) rfl mD kD bD .nil pass0 (pa_cons (pv 0) (pa_cons pe_int pa_nil))) (fun _ _ => rfl))))), ?_⟩
    refine ⟨_, rfl, _, rfl, _, rfl, Nat.le_trans hl (by decide), _, _, rfl, rfl, b, _, rfl, B, by omega, fun at' H1 a0 a1 B1 U1 => ?_⟩
    have cx := cutS_len (pt ns) none (some at') 64 hl
    have cy := cutS_len (pt ns) (some at') none 64 hl
    refine ⟨_, rfl, _, rfl, _, rfl, _, rfl, (Nat.le_trans hl (by decide)), _, _, rfl, rfl, (szA (by simp only [Str.length_append, lens]; omega)), _, rfl, _, rfl, _, rfl, _, rfl, (Nat.le_trans hl (by decide)), _, _, rfl, rfl, (szA (by simp only [Str.length_append, lens]; omega)), _, rfl, _, _, rfl, rfl, (szA (by simp only [Str.length_append, lens]; omega)), _, rfl, _, _, rfl, rfl, (szA (by simp only [Str.length_append, lens]; omega)), _, rfl, _, _, rfl, rfl, (szA (by simp only [Str.length_append, lens]; omega)), _, rfl, _, rfl, _, rfl, _, rfl, (Nat.le_trans hl (by decide)), _, _, rfl, rfl, (szA (by simp only [Str.length_append, lens]; omega)), _, rfl, _, rfl, _, rfl, _, rfl, (Nat.le_trans hl (by decide)), _, _, rfl, rfl, (szA (by simp only [Str.length_append, lens]; omega)), _, rfl, _, _, rfl, rfl, (szA (by simp only [Str.length_append, lens]; omega)), _, rfl, _, _, rfl, rfl, (szA (by simp only [Str.length_append, lens]; omega)), _, rfl, _, rfl, _, rfl, _, rfl, (Nat.le_trans hl (by decide)), _, _, rfl, rfl, (szA (by simp only [Str.length_append, lens]; omega)), _, rfl, _, rfl, _, rfl, _, rfl, (Nat.le_trans hl (by decide)), _, _, rfl, rfl, (szA (by simp only [Str.length_append, lens]; omega)), (by show 9 ≤ sizeLine; decide), fun l nl => ?_⟩
    refine ⟨_, rfl, b, 9, rfl, B1.new nl, by decide, fun r H2 r0 r1 B2 U2 => ?_⟩
    have hlst := B1.keepL nl U2
    have U := (U1.new nl).trans U2
    have go : ∀ z : Str, BadT z → z.length ≤ 200 → Q (.str z) H2 := fun z bz hz => q z H2 bz hz B2 U
    clear q
    generalize cutS (pt ns) none (some at') = x at *
    generalize cutS (pt ns) (some at') none = y at *
    have c : r = 0 ∨ r = 1 ∨ r = 2 ∨ r = 3 ∨ r = 4 ∨ r = 5 ∨ r = 6 ∨ r = 7 ∨ r = 8 := by omega
    rcases c with rfl | rfl | rfl | rfl | rfl | rfl | rfl | rfl | rfl
    · exact ⟨l, _, _, _, rfl, rfl, SqL.of hlst, rfl, go _ (badSign (c := 32) (in_mid (show 32 ∈ tl (" " : Str) by decide)) (by decide)) (by simp only [Str.length_append, lens]; omega)⟩
    · exact ⟨l, _, _, _, rfl, rfl, SqL.of hlst, rfl, go _ (badZero hp) (by simp only [Str.length_append, lens]; omega)⟩
    · exact ⟨l, _, _, _, rfl, rfl, SqL.of hlst, rfl, go _ (badEnd (x := tl (pt ns)) (by rw [tl_append, dot_tl])) (by simp only [Str.length_append, lens]; omega)⟩
    · exact ⟨l, _, _, _, rfl, rfl, SqL.of hlst, rfl, go _ (badHead (y := tl (pt ns)) (by rw [tl_append, dot_tl]; rfl)) (by simp only [Str.length_append, lens]; omega)⟩
    · exact ⟨l, _, _, _, rfl, rfl, SqL.of hlst, rfl, go _ (badDots (x := tl x) (y := tl y) (by rw [tl_append, tl_append, show tl (".." : Str) = [46, 46] by decide]; simp)) (by simp only [Str.length_append, lens]; omega)⟩
    · exact ⟨l, _, _, _, rfl, rfl, SqL.of hlst, rfl, go _ badNone (by decide)⟩
    · exact ⟨l, _, _, _, rfl, rfl, SqL.of hlst, rfl, go _ (badSign (c := 97) (by rw [tl_append]; exact List.mem_append_right _ (show 97 ∈ tl ("a" : Str) by decide)) (by decide)) (by simp only [Str.length_append, lens]; omega)⟩
    · exact ⟨l, _, _, _, rfl, rfl, SqL.of hlst, rfl, go _ (badSign (c := 45) (by rw [tl_append]; exact List.mem_append_left _ (show 45 ∈ tl ("-" : Str) by decide)) (by decide)) (by simp only [Str.length_append, lens]; omega)⟩
    · exact ⟨l, _, _, _, rfl, rfl, SqL.of hlst, rfl, go _ (badSign (c := 44) (in_mid (show 44 ∈ tl ("," : Str) by decide)) (by decide)) (by simp only [Str.length_append, lens]; omega)⟩
end
end LB

set_option maxRecDepth 100000
set_option maxHeartbeats 8000000
namespace LB
open PySem PySem.Spec PyProof.Rows L2 TL
theorem digits_tl : tl (("0123456789" : Str)) = [48, 49, 50, 51, 52, 53, 54, 55, 56, 57] := by decide
theorem not_bad {l : List Nat} (h1 : l ≠ []) (h2 : ∀ d r, l ≠ 48 :: d :: r) (h3 : ∀ c ∈ l, 48 ≤ c ∧ c ≤ 57) : ¬ Bad l := by
  rintro (h | ⟨c, hc, h⟩ | ⟨d, r, h⟩)
  · exact h1 h
  · have := h3 c hc
    omega
  · exact h2 d r h
section
variable {P : Program} {w : World} {K : PySem.W.Frag} {mg : Str → Option Value} {base : Heap}
/-- a text with a bad part is no path -/
def spIsPath (K : PySem.W.Frag) : Sp := fun vs H Q _ => ∃ z : Str, vs = [.str z] ∧ BadT z ∧ z.length ≤ 1000 ∧ ∀ H', Same H H' → Q (.bl false) H'
theorem scIP : FnScope ["text", "part", "sign"] ["text"] (defScope sLIsPath) := ⟨rfl, rfl, rfl, by decide +kernel, rfl, by decide +kernel, by decide +kernel⟩
theorem ok_ispath {f : Addr} {fd : FuncData} (F : Fun K "_law_is_path" "_law_is_path" sLIsPath f fd) : FnOk P w K mg base CX0 1 f fd ["text"] (spIsPath K) := by
  refine F.ok scIP (fun vs H Q E h => ?_) (fun cdv A outer s H vs Q E hr h => ?_)
  · obtain ⟨z, rfl, _⟩ := h
    rfl
  · obtain ⟨z, rfl, ⟨p0, hp0, bad⟩, hz, q⟩ := h
    have nd := scIP.nd
    refine ⟨_, (pss_cons (ps_for PassesOwn.never rfl (pi_list (pe_split (pv 0) pe_str)) (pg_name (i := 1) nd rfl (Or.inl rfl)) (pss_cons (ps_if (PW.pt (pw_or (pt_cmpR op_eq (pv 1) pe_str (nomark _)) (pw_or1 (PW.pt (pw_and (pt_cmpR op_eq (pe_item_str (pv 1) pe_int (fun _ _ => rfl)) pe_str (nomark _)) (pw_and1 (pt_cmpR op_ne (pv 1) pe_str (nomark _)))))))) (pss_one (ps_ret pe_bl)) pss_nil)
        (pss_one (ps_for PassesOwn.never rfl (pi_str (pv 1)) (pg_name (i := 2) nd rfl (Or.inl rfl)) (pss_one (ps_if (pt_cmpR op_notIn_sign (pv 2) pe_str rfl) (pss_one (ps_ret pe_bl)) pss_nil))))))
        (pss_one (ps_ret pe_bl))), ?_⟩
    refine ⟨_, rfl, ⟨_, rfl⟩, z, _, rfl, rfl, rfl, Nat.le_trans (show z.length + 2 ≤ 1002 by omega) (by decide), fun l nl => ?_⟩
    have hl : upd H l (.lst ((Txt.split z ".").map V.str)) l = some (.lst ((Txt.split z ".").map V.str)) := upd_same
    have S0 := same_new (o := .lst ((Txt.split z ".").map V.str)) nl
    have part_len := fun p hp => part_short (z := z) hz (p := p) hp
    generalize upd H l (.lst ((Txt.split z ".").map V.str)) = H1 at hl S0
    generalize Txt.split z "." = ps at q hl part_len hp0
    refine ⟨l, rfl, ⟨_, SqL.of hl⟩, ?_⟩
    refine for_list (xs := ps.map V.str) (fun j σ H' => ∃ v1 v2 : Option V, σ = [some (.str z), v1, v2] ∧ Same H1 H' ∧ ∀ i < j, ∀ p, ps[i]? = some p → ¬ Bad (tl p))
      ⟨_, _, rfl, Same.refl _, fun i hi => absurd hi (Nat.not_lt_zero i)⟩ (fun j σ H' _ h => by obtain ⟨_, _, _, S, _⟩ := h; exact sqL_same S (SqL.of hl)) ?_ ?_
    · rintro j x σ H2 hx ⟨v1, v2, rfl, S2, good⟩
      obtain ⟨p, hpj, rfl⟩ := map_atS hx
      have qf := q H2 (S0.trans S2)
      refine ⟨_, rfl, rfl, _, rfl, ite2 (fun e => iteT qf) (fun n => ?_)⟩
      have pne : tl p ≠ [] := fun e => n (decide_eq_true (congrArg V.str (ext_tl (by rw [e]; decide))))
      obtain ⟨c, r, ec⟩ : ∃ c r, tl p = c :: r := by
        cases e : tl p with
        | nil => exact absurd e pne
        | cons c r => exact ⟨c, r, rfl⟩
      have plen : p.length = (c :: r).length := by rw [len_tl, ec]
      refine ⟨_, rfl, p, 0, c, rfl, rfl, by decide, by decide, by rw [plen, List.length_cons]; omega, ?_, rfl, _, rfl, ?_⟩
      · show p.cps[0]? = some c
        rw [← Array.getElem?_toList]
        show (tl p)[0]? = some c
        rw [ec]
        rfl
      refine ite2 (fun e => ?_) (fun n0 => ?_)
      · refine ⟨_, rfl, rfl, _, rfl, ?_⟩
        by_cases hz0 : p = "0"
        · have n48 : ∀ d r, tl p ≠ 48 :: d :: r := by
            rw [hz0, zero_tl]
            intro d r e
            cases e
          rw [decide_eq_true (congrArg V.str hz0)]
          refine iteF ?_
          refine ⟨_, rfl, p, rfl, for_it walk_str (fun k σ H' => ∃ v2 : Option V, σ = [some (.str z), some (.str p), v2] ∧ Same H1 H' ∧ ∀ i < k, ∀ c, (tl p)[i]? = some c → 48 ≤ c ∧ c ≤ 57) ⟨_, rfl, S2, fun i hi => absurd hi (Nat.not_lt_zero i)⟩ (fun _ _ _ _ _ => trivial) ?_ ?_⟩
          · rintro k x σ H3 H4 hk ⟨v2, rfl, S3, dg⟩ ⟨rfl, c, hc, rfl⟩
            refine ⟨_, rfl, c, _, rfl, rfl, _, rfl, ?_⟩
            by_cases hd : c ∈ tl (("0123456789" : Str))
            · rw [decide_eq_true hd]
              refine iteF ⟨_, rfl, S3, fun i hi c' hc' => ?_⟩
              by_cases e : i = k
              · subst e
                rw [← Array.getElem?_toList] at hc
                cases hc.symm.trans hc'
                rw [digits_tl] at hd
                simp only [List.mem_cons, List.not_mem_nil, or_false] at hd
                omega
              · exact dg i (by omega) c' hc'
            · rw [decide_eq_false hd]
              exact iteT (q _ (S0.trans S3))
          · rintro σ H3 ⟨v2, rfl, S3, dg⟩
            refine ⟨_, _, rfl, S3, fun i hi p' hp' => ?_⟩
            by_cases e : i = j
            · subst e
              cases hpj.symm.trans hp'
              exact not_bad pne n48 fun c hc => by
                obtain ⟨k, hk⟩ := List.getElem?_of_mem hc
                exact dg k (by have := (List.getElem?_eq_some_iff.mp hk).1; simpa using this) c hk
            · exact good i (by omega) p' hp'
        · rw [decide_eq_false fun e => hz0 (V.str.inj e)]
          exact iteT qf
      · have n48 : ∀ d r, tl p ≠ 48 :: d :: r := fun d r e => n0 (decide_eq_true (congrArg V.str (ext_tl (by
            rw [ec] at e
            rw [zero_tl]
            injection e with e1 e2
            rw [e1]))))
        refine iteF ?_
        refine ⟨_, rfl, p, rfl, for_it walk_str (fun k σ H' => ∃ v2 : Option V, σ = [some (.str z), some (.str p), v2] ∧ Same H1 H' ∧ ∀ i < k, ∀ c, (tl p)[i]? = some c → 48 ≤ c ∧ c ≤ 57) ⟨_, rfl, S2, fun i hi => absurd hi (Nat.not_lt_zero i)⟩ (fun _ _ _ _ _ => trivial) ?_ ?_⟩
        · rintro k x σ H3 H4 hk ⟨v2, rfl, S3, dg⟩ ⟨rfl, c, hc, rfl⟩
          refine ⟨_, rfl, c, _, rfl, rfl, _, rfl, ?_⟩
          by_cases hd : c ∈ tl (("0123456789" : Str))
          · rw [decide_eq_true hd]
            refine iteF ⟨_, rfl, S3, fun i hi c' hc' => ?_⟩
            by_cases e : i = k
            · subst e
              rw [← Array.getElem?_toList] at hc
              cases hc.symm.trans hc'
              rw [digits_tl] at hd
              simp only [List.mem_cons, List.not_mem_nil, or_false] at hd
              omega
            · exact dg i (by omega) c' hc'
          · rw [decide_eq_false hd]
            exact iteT (q _ (S0.trans S3))
        · rintro σ H3 ⟨v2, rfl, S3, dg⟩
          refine ⟨_, _, rfl, S3, fun i hi p' hp' => ?_⟩
          by_cases e : i = j
          · subst e
            cases hpj.symm.trans hp'
            exact not_bad pne n48 fun c hc => by
              obtain ⟨k, hk⟩ := List.getElem?_of_mem hc
              exact dg k (by have := (List.getElem?_eq_some_iff.mp hk).1; simpa using this) c hk
          · exact good i (by omega) p' hp'
    · rintro σ H2 ⟨v1, v2, rfl, S2, good⟩
      obtain ⟨i, hi⟩ := List.getElem?_of_mem hp0
      have hlt : i < (ps.map V.str).length := by rw [List.length_map]; exact (List.getElem?_eq_some_iff.mp hi).1
      exact absurd bad (good i hlt p0 hi)
end
end LB

set_option maxRecDepth 100000
set_option maxHeartbeats 8000000
namespace LB
open PySem PySem.Spec PyProof.Rows L2 TL
def spLaw (K : PySem.W.Frag) : Sp := fun vs H Q _ => ∃ (a : Addr) (ns : List Int), vs = [.ref a] ∧ SqL K H a (ns.map V.int) ∧ ∀ H', Q (.bl true) H'
structure Defs (K : PySem.W.Frag) (mg : Str → Option Value) (base : Heap) (P : Program) (w : World) : Prop where
  D : ∃ f fd, FnOk P w K mg base CX0 1 f fd ["box", "many"] (spDraw K) ∧ mg "_law_draw" = some (.ref f) ∧ PySem.W.keepIn K (.ref f) = true ∧ Binds K fd ["box", "many"] []
  G : ∃ f fd, FnOk P w K mg base CX0 2 f fd ["script", "first", "last"] (spDigits K) ∧ mg "_law_digits" = some (.ref f) ∧ PySem.W.keepIn K (.ref f) = true ∧ Binds K fd ["script", "first", "last"] []
  A : ∃ f fd, FnG P w K mg base CX0 1 f fd ["one", "two"] (spAlike K) ∧ mg "_law_alike" = some (.ref f) ∧ PySem.W.keepIn K (.ref f) = true ∧ Binds K fd ["one", "two"] []
  L : ∃ f fd, FnOk P w K mg base CX0 2 f fd ["box"] (spLPath K) ∧ mg "_law_path" = some (.ref f) ∧ PySem.W.keepIn K (.ref f) = true ∧ Binds K fd ["box"] []
  N : ∃ f fd, FnOk P w K mg base CX0 2 f fd ["box", "text"] (spNear K) ∧ mg "_law_near" = some (.ref f) ∧ PySem.W.keepIn K (.ref f) = true ∧ Binds K fd ["box", "text"] []
  I : ∃ f fd, FnOk P w K mg base CX0 1 f fd ["text"] (spIsPath K) ∧ mg "_law_is_path" = some (.ref f) ∧ PySem.W.keepIn K (.ref f) = true ∧ Binds K fd ["text"] []
  W : ∃ f fd, FnOk P w K mg base CX0 1 f fd ["path"] (spWrite K) ∧ mg "write_path" = some (.ref f) ∧ PySem.W.keepIn K (.ref f) = true ∧ Binds K fd ["path"] []
  R : ∃ f fd, FnOk P w K mg base CX0 2 f fd ["text"] (spRead K) ∧ mg "read_path" = some (.ref f) ∧ PySem.W.keepIn K (.ref f) = true ∧ Binds K fd ["text"] []
  B : ∃ f fd, FnOk P w K mg base CX0 1 f fd ["one", "two"] (spAbove K) ∧ mg "is_above" = some (.ref f) ∧ PySem.W.keepIn K (.ref f) = true ∧ Binds K fd ["one", "two"] []
  C : ∃ f fd, FnOk P w K mg base CX0 1 f fd ["path", "scope", "part"] (spChild K) ∧ mg "child_path" = some (.ref f) ∧ PySem.W.keepIn K (.ref f) = true ∧ Binds K fd ["path", "scope", "part"] []
  names : NamesT mg
section
variable {P : Program} {w : World} {K : PySem.W.Frag} {mg : Str → Option Value} {base : Heap}
theorem scLaw : FnScope ["script", "box", "turn", "path", "text", "near", "due", "digits", "other", "one", "two", "number", "part"] ["script"] (defScope sLaw) := ⟨rfl, rfl, rfl, by decide +kernel, rfl, by decide +kernel, by decide +kernel⟩
theorem nines {k : Int} (h0 : 0 ≤ k) (h1 : k < 3) : ∃ m : Int, MulOk "9" (6 + k) ∧ Txt.mul "9" (6 + k) = num m ∧ 0 ≤ m ∧ (num m).length ≤ 8 ∧ (m < 10000000 ∨ (10000000 ≤ m ∧ (num m).length = 8)) := by
  have c : k = 0 ∨ k = 1 ∨ k = 2 := by omega
  rcases c with rfl | rfl | rfl
  · exact ⟨999999, ⟨by decide +kernel, by decide +kernel, by decide +kernel⟩, by decide +kernel, by decide, by decide +kernel, .inl (by decide)⟩
  · exact ⟨9999999, ⟨by decide +kernel, by decide +kernel, by decide +kernel⟩, by decide +kernel, by decide, by decide +kernel, .inl (by decide)⟩
  · exact ⟨99999999, ⟨by decide +kernel, by decide +kernel, by decide +kernel⟩, by decide +kernel, by decide, by decide +kernel, .inr ⟨by decide, by decide +kernel⟩⟩
theorem okp_last {ns : List Int} {m : Int} (h : (num m).length = 8) : (((ns.map num) ++ [num m]).map okp).all id = false := by
  rw [Bool.eq_false_iff]
  intro y
  have := List.all_eq_true.mp y (okp (num m)) (List.mem_map.mpr ⟨num m, by simp, rfl⟩)
  unfold okp at this
  rw [h] at this
  simp at this
theorem szFive : (5 : Nat) ≤ sizeLine := by decide
theorem cut_init {xs : List V} (h : 1 ≤ xs.length) : ¬ (HT.sIx xs.length 0 none = 0 ∧ HT.sIx xs.length xs.length (some (-1)) = xs.length) ∧ cutV xs none (some (-1)) = xs.take (xs.length - 1) := by
  have e : HT.sIx xs.length xs.length (some (-1)) = xs.length - 1 := by
    show (if (-1 : Int) < 0 then ((-1 : Int) + (xs.length : Int)).toNat else min (-1 : Int).toNat xs.length) = xs.length - 1
    have c : (-1 : Int) < 0 := by decide
    rw [if_pos c]
    omega
  refine ⟨fun c => by have := c.2; omega, ?_⟩
  unfold cutV
  rw [e, HT.sIx_none, List.drop_zero, Nat.sub_zero]
theorem atI_end' {α : Type} {us : List α} {n : Nat} {x : α} (hl : us.length = n + 1) (h : us[n]? = some x) : atI us (-1) = some x := by
  have e := takeS h
  rw [List.take_of_length_le (by omega)] at e
  rw [e]
  exact atI_last _ _
theorem ok_law {f : Addr} {fd : FuncData} (F : Fun K "law" "law" sLaw f fd) (T : Defs K mg base P w) : FnG P w K mg base CX0 4 f fd ["script"] (spLaw K) := by
  obtain ⟨_, _, GD, mD, kD, bD⟩ := T.D
  obtain ⟨_, _, GG, mG, kG, bG⟩ := T.G
  obtain ⟨_, _, GA, mA, kA, bA⟩ := T.A
  obtain ⟨_, _, GL, mL, kL, bL⟩ := T.L
  obtain ⟨_, _, GN, mN, kN, bN⟩ := T.N
  obtain ⟨_, _, GI, mI, kI, bI⟩ := T.I
  obtain ⟨_, _, GW, mW, kW, bW⟩ := T.W
  obtain ⟨_, _, GR, mR, kR, bR⟩ := T.R
  obtain ⟨_, _, GB, mB, kB, bB⟩ := T.B
  obtain ⟨_, _, GC, mC, kC, bC⟩ := T.C
  have M := T.names
  refine FnG.of_fun F scLaw (fun vs H Q E h => ?_) (fun cdv A outer s H vs Q E gf hr h => ?_)
  · obtain ⟨a, ns, rfl, _⟩ := h
    rfl
  · obtain ⟨a, ns, rfl, hS, q⟩ := h
    have nd := scLaw.nd
    refine ⟨_, (pss_cons (ps_set (i := 1) nd rfl (Or.inl rfl) (pe_lst (pa_cons (pe_call GG (hr.mono (by decide)) rfl mG kG bG .nil pass0 (pa_cons (pv 0) (pa_cons pe_int (pa_cons pe_int pa_nil)))) (pa_cons pe_int pa_nil))))
        (pss_cons (ps_for PassesOwn.never rfl (pi_range1 (by rfl) M.range (pa_cons pe_int pa_nil)) (pg_name (i := 2) nd rfl (Or.inl rfl)) (pss_cons (ps_set (i := 3) nd rfl (Or.inl rfl) (pe_call GL (hr.mono (by decide)) rfl mL kL bL .nil pass0 (pa_cons (pv 1) pa_nil)))
        (pss_cons (ps_set (i := 4) nd rfl (Or.inl rfl) (pe_join pe_str (pe_lc (own := [("number", 11)]) (g := (gName 11)) rfl nd (pi_tup (pv 3)) (blkOk_by (N := ["script", "box", "turn", "path", "text", "near", "due", "digits", "other", "one", "two", "number", "part"]) (sc := (defScope sLaw)) (by decide +kernel)) (fun _ _ _ _ _ => (pg_name (i := 11) nd rfl (Or.inl rfl))) (fun _ _ _ _ _ => pts_nil) (fun _ _ _ _ _ => (pe_callTy call_str_int (by rfl) M.str (by decide +kernel) (pa_cons (pv 11) pa_nil))))))
        (pss_cons (ps_if (PW.pt (pw_or (pt_cmpR op_ne (pe_call GW (hr.mono (by decide)) rfl mW kW bW .nil pass0 (pa_cons (pv 3) pa_nil)) (pv 4) (nomark _)) (pw_or1 (pt_not (pt_val (pe_callF gf GA (hr.mono (by decide)) rfl mA kA bA .nil pass0 (pa_cons (pe_call GR (hr.mono (by decide)) rfl mR kR bR .nil pass0 (pa_cons (pv 4) pa_nil)) (pa_cons (pv 3) pa_nil)))))))) (pss_one (ps_ret pe_bl)) pss_nil)
        (pss_cons (ps_set (i := 5) nd rfl (Or.inl rfl) (pe_call GN (hr.mono (by decide)) rfl mN kN bN .nil pass0 (pa_cons (pv 1) (pa_cons (pv 4) pa_nil))))
        (pss_cons (ps_set (i := 6) nd rfl (Or.inl rfl) pe_non)
        (pss_cons (ps_if (pt_val (pe_call GI (hr.mono (by decide)) rfl mI kI bI .nil pass0 (pa_cons (pv 5) pa_nil))) (pss_one (ps_set (i := 6) nd rfl (Or.inl rfl) (pe_callTy call_tuple_of (by rfl) M.tuple (by decide +kernel) (pa_cons (pe_lc (own := [("part", 12)]) (g := (gName 12)) rfl nd (pi_list (pe_split (pv 5) pe_str)) (blkOk_by (N := ["script", "box", "turn", "path", "text", "near", "due", "digits", "other", "one", "two", "number", "part"]) (sc := (defScope sLaw)) (by decide +kernel)) (fun _ _ _ _ _ => (pg_name (i := 12) nd rfl (Or.inl rfl))) (fun _ _ _ _ _ => pts_nil) (fun _ _ _ _ _ => (pe_callTy call_intK (by rfl) M.int (by decide +kernel) (pa_cons (pv 12) pa_nil)))) pa_nil)))) pss_nil)
        (pss_cons (ps_if (pt_not (pt_val (pe_callF gf GA (hr.mono (by decide)) rfl mA kA bA .nil pass0 (pa_cons (pe_call GR (hr.mono (by decide)) rfl mR kR bR .nil pass0 (pa_cons (pv 5) pa_nil)) (pa_cons (pv 6) pa_nil))))) (pss_one (ps_ret pe_bl)) pss_nil)
        (pss_cons (ps_set (i := 7) nd rfl (Or.inl rfl) (pe_op op_mulS pe_str (pe_op op_add pe_int (pe_call GD (hr.mono (by decide)) rfl mD kD bD .nil pass0 (pa_cons (pv 1) (pa_cons pe_int pa_nil))))))
        (pss_cons (ps_set (i := 6) nd rfl (Or.inl rfl) pe_non)
        (C8.pss_cut (ps_if (pt_cmpR op_le (pe_callB call_lenS (by rfl) M.len PySem.boot_len (pa_cons (pv 7) pa_nil)) pe_int (nomark _)) (pss_one (ps_set (i := 6) nd rfl (Or.inl rfl) (pe_op op_catT (pv 3) (pe_tup (pa_cons (pe_callTy call_intK (by rfl) M.int (by decide +kernel) (pa_cons (pv 7) pa_nil)) pa_nil))))) pss_nil)
        (C8.pss_cut (ps_if (pt_not (pt_val (pe_callF gf GA (hr.mono (by decide)) rfl mA kA bA .nil pass0 (pa_cons (pe_call GR (hr.mono (by decide)) rfl mR kR bR .nil pass0 (pa_cons (pe_op op_add_str (pe_op op_add_str (pv 4) pe_str) (pv 7)) pa_nil)) (pa_cons (pv 6) pa_nil))))) (pss_one (ps_ret pe_bl)) pss_nil)
        (C8.pss_cut (ps_set (i := 8) nd rfl (Or.inl rfl) (pe_ix ix_list (pe_lst (pa_cons (pe_call GL (hr.mono (by decide)) rfl mL kL bL .nil pass0 (pa_cons (pv 1) pa_nil)) (pa_cons (pv 3) (pa_cons (pe_op op_catT (pv 3) (pe_call GL (hr.mono (by decide)) rfl mL kL bL .nil pass0 (pa_cons (pv 1) pa_nil))) (pa_cons (pe_op op_catA (pe_slice sl_tupA (pv 3) po_none (po_some (pe_un un_neg pe_int))) (pe_tup (pa_cons (pe_op op_add (pe_ix ix_tup (pv 3) (pe_un un_neg pe_int) (fun _ _ => rfl)) pe_int) pa_nil))) (pa_cons (pe_slice sl_tupA (pv 3) po_none (po_some pe_int)) pa_nil)))))) (pe_call GD (hr.mono (by decide)) rfl mD kD bD .nil pass0 (pa_cons (pv 1) (pa_cons pe_int pa_nil))) (fun _ _ => rfl)))
        (C8.pss_cut (ps_if (pt_not (pt_val (pe_callF gf GA (hr.mono (by decide)) rfl mA kA bA .nil pass0 (pa_cons (pe_call GB (hr.mono (by decide)) rfl mB kB bB .nil pass0 (pa_cons (pv 3) (pa_cons (pv 8) pa_nil))) (pa_cons (pe_and (pe_cmpR op_gt (pe_callB call_len_seq (by rfl) M.len PySem.boot_len (pa_cons (pv 8) pa_nil)) (pe_callB call_len_seq (by rfl) M.len PySem.boot_len (pa_cons (pv 3) pa_nil)) (nomark _)) (pe_one (pe_cmpR (op_eqD hr.units) (pe_slice sl_tupA (pv 8) po_none (po_some (pe_callB call_len_seq (by rfl) M.len PySem.boot_len (pa_cons (pv 3) pa_nil)))) (pv 3) (nomark _)))) pa_nil))))) (pss_one (ps_ret pe_bl)) pss_nil)
        (pss_cons (ps_set (i := 9) nd rfl (Or.inl rfl) (pe_call GD (hr.mono (by decide)) rfl mD kD bD .nil pass0 (pa_cons (pv 1) (pa_cons pe_int pa_nil))))
        (pss_cons (ps_set (i := 10) nd rfl (Or.inl rfl) (pe_call GD (hr.mono (by decide)) rfl mD kD bD .nil pass0 (pa_cons (pv 1) (pa_cons pe_int pa_nil))))
        (pss_one (ps_if (PW.pt (pw_or (pt_not (pt_val (pe_callF gf GA (hr.mono (by decide)) rfl mA kA bA .nil pass0 (pa_cons (pe_call GC (hr.mono (by decide)) rfl mC kC bC .nil pass0 (pa_cons (pv 3) (pa_cons (pv 9) (pa_cons (pv 10) pa_nil)))) (pa_cons (pe_op op_catT (pv 3) (pe_tup (pa_cons (pv 9) (pa_cons (pv 10) pa_nil)))) pa_nil))))) (pw_or1 (pt_not (pt_val (pe_callF gf GA (hr.mono (by decide)) rfl mA kA bA .nil pass0 (pa_cons (pe_call GB (hr.mono (by decide)) rfl mB kB bB .nil pass0 (pa_cons (pv 3) (pa_cons (pe_call GC (hr.mono (by decide)) rfl mC kC bC .nil pass0 (pa_cons (pv 3) (pa_cons (pv 9) (pa_cons (pv 10) pa_nil)))) pa_nil))) (pa_cons pe_bl pa_nil)))))))) (pss_one (ps_ret pe_bl)) pss_nil))))))))))))))))))
        (pss_one (ps_ret pe_bl)))), ?_⟩
    refine ⟨_, rfl, a, ns, 0, 63, rfl, hS, by decide, by decide, by decide, fun ds H1 l s1 nl hl hd hlen => ⟨szTwo', fun b nb => ?_⟩⟩
    have B0 : Box (upd H1 b (.lst [.ref l, .int 0])) b := ⟨l, ds, 0, upd_same, by rw [upd_ne (ne_of_none hl nb)]; exact hl, (ne_of_none hl nb).symm, by decide, hlen⟩
    refine ⟨8, rfl, by decide, by decide, for_range (n := 8) (fun m σ H' => ∃ v2 v3 v4 v5 v6 v7 v8 v9 v10 : Option V, σ = [some (.ref a), some (.ref b), v2, v3, v4, v5, v6, v7, v8, v9, v10, none, none] ∧ Box H' b)
      ⟨none, none, none, none, none, none, none, none, none, rfl, B0⟩ ?_ ?_⟩
    · rintro m σ H0 hm ⟨v2, v3, v4, v5, v6, v7, v8, v9, v10, rfl, B0⟩
      -- path
      refine ⟨_, rfl, b, rfl, B0, fun ns p H2 pd B2 _ sp => ?_⟩
      have hp := pd.n
      have sml : ∀ n ∈ ns, Sm n := fun n hn => Sm.of (by have := pd.2.2 n hn; omega) (by have := pd.2.2 n hn; omega)
      have shn : Short (.tuple (ns.map PyData.int)) := (Td.tup (TdA.ints sml)).short (by decide) (by have := pd.2.1; omega)
      -- text
      refine ⟨⟨_, rfl⟩, _, rfl, p, rfl, ⟨_, sp⟩, fun D nD => ?_⟩
      refine lc_tup (xs := ns.map V.int) (fun j H' => Same H2 H' ∧ H' D = some (.lst (((ns.take j).map num).map V.str))) ⟨same_new nD, upd_same⟩ (fun j H' _ h => sqT_same h.1 sp) ?_ ?_
      · rintro j x H3 hx ⟨S3, hD⟩
        obtain ⟨n, hn, rfl⟩ := map_at hx
        have hb := hp.2.2 n (List.mem_of_getElem? hn)
        refine ⟨rfl, _, rfl, n, rfl, log_path hb, _, hD, ?_, same_upd S3 nD, ?_⟩
        · rw [List.length_map, List.length_map, List.length_take]
          have := hp.2.1
          exact small_line (by omega)
        · rw [takeS hn, List.map_append, List.map_append]
          exact upd_same
      rintro H3 ⟨S3, hD⟩
      rw [List.length_map, List.take_length] at hD
      refine ⟨_, _, _, rfl, rfl, .inl (SqL.of hD), pt_room hp, ?_⟩
      have B3 := B2.same S3
      have sp := sqT_same S3 sp
      clear hD nD S3 B2 B0
      -- write_path(path) != text
      refine ⟨_, rfl, p, ns, rfl, sp, hp, fun H4 S4 => ⟨_, rfl, rfl, _, rfl, ?_⟩⟩
      have et : (decide (V.str (pt ns) = V.str (Txt.join "." (ns.map num)))) = true := decide_eq_true rfl
      rw [et]
      refine iteF ?_
      refine ⟨_, rfl, pt ns, rfl, Nat.le_trans (pt_len hp) (by decide), .inr ⟨ns, pt_split hp, hp.2.2, fun t H5 S5 ht => ?_⟩⟩
      have B5 := (B3.same S4).same S5
      have sp5 := sqT_same S5 (sqT_same S4 sp)
      refine ⟨_, rfl, _, _, _, rfl, .tup (SqT.of ht) dpI, .tup sp5 dpI, shn, _, rfl, iteF ?_⟩
      -- near
      refine ⟨_, rfl, _, rfl, b, ns, rfl, B5, hp, fun z H6 bz hz B6 U6 => ?_⟩
      have sp6 := B5.tup U6 sp5
      refine ⟨_, rfl, z, rfl, bz, by omega, fun H7 S7 => ⟨_, rfl, iteF ?_⟩⟩
      refine ⟨_, rfl, z, rfl, by omega, .inl ⟨okp_none bz, fun H8 S8 => ?_⟩⟩
      refine ⟨_, rfl, _, _, .none, rfl, .non, .non, Td.non.short (by decide) (by decide), _, rfl, iteF ?_⟩
      have B8 := (B6.same S7).same S8
      have sp8 := sqT_same S8 (sqT_same S7 sp6)
      clear S4 S5 S7 S8 B3 B5 B6 sp5 sp6 U6
      -- digits
      refine ⟨_, rfl, b, 3, rfl, B8, by decide, fun k H9 k0 k1 B9 U9 => ?_⟩
      have sp9 := B8.tup U9 sp8
      obtain ⟨dg, mok, edg, dg0, dgl, dgc⟩ := nines k0 k1
      refine ⟨_, _, rfl, rfl, _, _, rfl, rfl, mok, ?_⟩
      rw [edg]
      clear mok edg
      refine ⟨fun σ H' => ∃ (dv v2 : V) (o8 o9 o10 : Option V), σ = [some (.ref a), some (.ref b), some v2, some (.ref p), some (.str (pt ns)), some (.str z), some dv, some (.str (num dg)), o8, o9, o10, none, none] ∧ Box H' b ∧ SqT K H' p (ns.map V.int) ∧
        ((dg < 10000000 ∧ ∃ u, dv = .ref u ∧ SqT K H' u ((ns ++ [dg]).map V.int)) ∨ ((num dg).length = 8 ∧ dv = .non)), ?_, ?_⟩
      · refine ⟨_, rfl, num dg, rfl, Nat.le_trans dgl (by decide), _, _, rfl, rfl, _, rfl, ite2 (fun c => ?_) (fun c => ?_)⟩
        · have c := of_decide_eq_true c
          have lt : dg < 10000000 := by
            rcases dgc with h | h
            · exact h
            · omega
          refine ⟨_, rfl, _, rfl, num dg, dg, rfl, num_int ⟨dg0, lt⟩, Nat.le_trans dgl (by decide), (by show 1 ≤ sizeLine; decide), fun u nu => ?_⟩
          refine ⟨p, u, ns.map V.int, _, rfl, rfl, sqT_same (same_new nu) sp9, SqT.of upd_same, fun e => hp.1 (List.map_eq_nil_iff.mp e), ?_, fun e => (by cases e), fun _ x nx => ?_⟩
          · rw [List.length_map]
            have := hp.2.1
            exact Nat.le_trans (show ns.length + 1 ≤ 1002 by omega) (by decide)
          refine ⟨_, _, _, _, _, rfl, (B9.new nu).new nx, sqT_same (same_new nx) (sqT_same (same_new nu) sp9), .inl ⟨lt, x, rfl, ?_⟩⟩
          rw [List.map_append]
          exact SqT.of upd_same
        · have c : ¬ ((num dg).length : Int) ≤ 7 := fun e => c (decide_eq_true e)
          refine ⟨_, _, _, _, _, rfl, B9, sp9, .inr ⟨?_, rfl⟩⟩
          rcases dgc with h | h
          · have := num_len ⟨dg0, h⟩
            omega
          · exact h.2
      rintro σ HA ⟨dv, v2, o8, o9, o10, rfl, BA, spA, dvc⟩
      -- a number of six to eight digits behind
      have tl0 := pt_len hp
      have l1 : (pt ns).length + (("." : Str)).length ≤ 100 := by rw [lens.2.2.1]; omega
      have l2 : (pt ns ++ ("." : Str)).length + (num dg).length ≤ 100 := by rw [Str.length_append, lens.2.2.1]; omega
      refine ⟨fun σ H' => ∃ (v2 v6 v7 : Option V) (o8 o9 o10 : Option V), σ = [some (.ref a), some (.ref b), v2, some (.ref p), some (.str (pt ns)), v6, v7, some (.str (num dg)), o8, o9, o10, none, none] ∧ Box H' b ∧ SqT K H' p (ns.map V.int), ?_, ?_⟩
      · refine ⟨_, rfl, _, _, rfl, rfl, szA (by omega), _, rfl, _, _, rfl, rfl, szA (by omega), _, rfl, by rw [Str.length_append]; omega, ?_⟩
        rcases dvc with ⟨lt, u, rfl, su⟩ | ⟨l8, rfl⟩
        · have shm : Short (.tuple ((ns ++ [dg]).map PyData.int)) := (Td.tup (TdA.ints fun n hn => by
            rcases List.mem_append.mp hn with h | h
            · exact sml n h
            · rw [List.mem_singleton.mp h]
              exact Sm.of (by omega) (by omega))).short (by decide) (by rw [List.length_append]; have := pd.2.1; show ns.length + 1 ≤ 1048576; omega)
          refine .inr ⟨ns ++ [dg], by rw [snoc_split hp dg0, List.map_append]; rfl, fun n hn => ?_, fun t HB S ht => ?_⟩
          · rcases List.mem_append.mp hn with h | h
            · exact hp.2.2 n h
            · rw [List.mem_singleton.mp h]
              exact ⟨dg0, lt⟩
          exact ⟨_, rfl, _, _, _, rfl, .tup (SqT.of ht) dpI, .tup (sqT_same S su) dpI, shm, _, rfl, iteF ⟨_, _, _, _, _, _, rfl, BA.same S, sqT_same S spA⟩⟩
        · refine .inl ⟨by rw [snoc_split hp dg0]; exact okp_last l8, fun HB S => ?_⟩
          exact ⟨_, rfl, _, _, .none, rfl, .non, .non, Td.non.short (by decide) (by decide), _, rfl, iteF ⟨_, _, _, _, _, _, rfl, BA.same S, sqT_same S spA⟩⟩
      clear B9 sp9 U9 B8 sp8 BA spA dvc
      rintro σ HA ⟨v2, v6, v7, o8, o9, o10, rfl, BA, spA⟩
      -- other
      refine ⟨fun σ H' => ∃ (v2 v6 v7 : Option V) (q : Addr) (ms : List Int) (o9 o10 : Option V), σ = [some (.ref a), some (.ref b), v2, some (.ref p), some (.str (pt ns)), v6, v7, some (.str (num dg)), some (.ref q), o9, o10, none, none] ∧ Box H' b ∧ SqT K H' p (ns.map V.int) ∧ SqT K H' q (ms.map V.int), ?_, ?_⟩
      · refine ⟨_, rfl, b, rfl, BA, fun n1 p1 HB d1 BB UB s1 => ?_⟩
        have spB := BA.tup UB spA
        refine ⟨_, rfl, _, rfl, _, rfl, b, rfl, BB, fun n2 p2 HC d2 BC UC s2 => ?_⟩
        have spC := BB.tup UC spB
        have s1 := BB.tup UC s1
        refine ⟨_, _, _, _, rfl, rfl, spC, s2, fun e => hp.1 (List.map_eq_nil_iff.mp e), ?_, fun e => absurd (List.map_eq_nil_iff.mp e) d2.1, fun _ t3 n3 => ?_⟩
        · rw [List.length_map, List.length_map]
          have := hp.2.1
          have := d2.2.1
          exact Nat.le_trans (show ns.length + n2.length ≤ 1002 by omega) (by decide)
        have S3 := same_new (o := .tup (ns.map V.int ++ n2.map V.int)) n3
        have BD := BC.new (o := .tup (ns.map V.int ++ n2.map V.int)) n3
        have s1 := sqT_same S3 s1
        have spD := sqT_same S3 spC
        have s3 : SqT K (upd HC t3 (.tup (ns.map V.int ++ n2.map V.int))) t3 ((ns ++ n2).map V.int) := by rw [List.map_append]; exact SqT.of upd_same
        generalize upd HC t3 (.tup (ns.map V.int ++ n2.map V.int)) = HD at *
        obtain ⟨ini, lst, en⟩ : ∃ ini lst, ns = ini ++ [lst] := by
          rcases List.eq_nil_or_concat ns with e | ⟨i, x, e⟩
          · exact absurd e hp.1
          · exact ⟨i, x, by rw [e, List.concat_eq_append]⟩
        have l1 : 1 ≤ (ns.map V.int).length := by rw [List.length_map, en, List.length_append]; show 1 ≤ ini.length + 1; omega
        have ec : cutV (ns.map V.int) none (some (-1)) = ini.map V.int := by
          rw [(cut_init l1).2, List.length_map, en, List.map_append, List.length_append]
          show List.take (ini.length + 1 - 1) _ = _
          rw [Nat.add_sub_cancel, ← List.length_map (as := ini) V.int]
          exact List.take_left
        refine ⟨_, rfl, _, rfl, _, rfl, p, _, rfl, spD, fun c => absurd c (cut_init l1).1, fun _ t4 n4 => ?_⟩
        have S4 := same_new (o := .tup (cutV (ns.map V.int) none (some (-1)))) n4
        have BE := BD.new (o := .tup (cutV (ns.map V.int) none (some (-1)))) n4
        have s1 := sqT_same S4 s1
        have s3 := sqT_same S4 s3
        have spE := sqT_same S4 spD
        have s4 : SqT K (upd HD t4 (.tup (cutV (ns.map V.int) none (some (-1))))) t4 (ini.map V.int) := by rw [ec]; exact SqT.of upd_same
        generalize upd HD t4 (.tup (cutV (ns.map V.int) none (some (-1)))) = HE at *
        refine ⟨_, rfl, _, rfl, p, _, _, .int lst, rfl, rfl, spE, (by rw [en, List.map_append]; exact L2.atI_last _ _), _, _, rfl, rfl, (by show 1 ≤ sizeLine; decide), fun t5 n5 => ?_⟩
        have S5 := same_new (o := .tup [V.int (lst + 1)]) n5
        have BF := BE.new (o := .tup [V.int (lst + 1)]) n5
        have s1 := sqT_same S5 s1
        have s3 := sqT_same S5 s3
        have spF := sqT_same S5 spE
        have s4 := sqT_same S5 s4
        have s5 : SqT K (upd HE t5 (.tup [V.int (lst + 1)])) t5 ([lst + 1].map V.int) := SqT.of upd_same
        generalize upd HE t5 (.tup [V.int (lst + 1)]) = HF at *
        refine ⟨t4, t5, _, _, rfl, rfl, s4, s5, ?_, fun e => ?_, fun _ e => absurd e (by simp), fun ne _ t6 n6 => ?_⟩
        · rw [List.length_map, List.length_map]
          have := hp.2.1
          rw [en, List.length_append] at this
          exact Nat.le_trans (show ini.length + 1 ≤ 1002 by omega) (by decide)
        · have e0 : ini = [] := List.map_eq_nil_iff.mp e
          have l2 : (ns.map V.int).length = 1 := by rw [List.length_map, en, e0]; rfl
          refine ⟨_, rfl, _, rfl, p, _, rfl, spF, fun _ => ?_, fun c => absurd (show HT.sIx (ns.map V.int).length 0 none = 0 ∧ HT.sIx (ns.map V.int).length (ns.map V.int).length (some 1) = (ns.map V.int).length by rw [l2]; exact ⟨rfl, rfl⟩) c⟩
          refine ⟨szFive, fun l nl => ⟨_, rfl, b, 5, rfl, BF.new nl, by decide, fun r HZ r0 r1 BZ UZ => ?_⟩⟩
          have hlst := BF.keepL nl UZ
          have spZ := (BF.new nl).tup UZ (sqT_same (same_new nl) spF)
          have s1 := (BF.new nl).tup UZ (sqT_same (same_new nl) s1)
          have s3 := (BF.new nl).tup UZ (sqT_same (same_new nl) s3)
          have s4 := (BF.new nl).tup UZ (sqT_same (same_new nl) s5)
          have s5 := (BF.new nl).tup UZ (sqT_same (same_new nl) spF)
          have c : r = 0 ∨ r = 1 ∨ r = 2 ∨ r = 3 ∨ r = 4 := by omega
          rcases c with rfl | rfl | rfl | rfl | rfl
          · exact ⟨l, _, _, _, rfl, rfl, SqL.of hlst, rfl, _, _, _, _, _, _, _, rfl, BZ, spZ, s1⟩
          · exact ⟨l, _, _, _, rfl, rfl, SqL.of hlst, rfl, _, _, _, _, _, _, _, rfl, BZ, spZ, spZ⟩
          · exact ⟨l, _, _, _, rfl, rfl, SqL.of hlst, rfl, _, _, _, _, _, _, _, rfl, BZ, spZ, s3⟩
          · exact ⟨l, _, _, _, rfl, rfl, SqL.of hlst, rfl, _, _, _, _, _, _, _, rfl, BZ, spZ, s4⟩
          · exact ⟨l, _, _, _, rfl, rfl, SqL.of hlst, rfl, _, _, _, _, _, _, _, rfl, BZ, spZ, s5⟩
        · have e0 : ini ≠ [] := fun z => ne (by rw [z]; rfl)
          have l2 : 2 ≤ (ns.map V.int).length := by
            rw [List.length_map, en, List.length_append]
            have := List.length_pos_iff.mpr e0
            show 2 ≤ ini.length + 1
            omega
          have S6 := same_new (o := .tup (ini.map V.int ++ [lst + 1].map V.int)) n6
          have BG := BF.new (o := .tup (ini.map V.int ++ [lst + 1].map V.int)) n6
          have s1 := sqT_same S6 s1
          have s3 := sqT_same S6 s3
          have spG := sqT_same S6 spF
          have s6 : SqT K (upd HF t6 (.tup (ini.map V.int ++ [lst + 1].map V.int))) t6 ((ini ++ [lst + 1]).map V.int) := by rw [List.map_append]; exact SqT.of upd_same
          generalize upd HF t6 (.tup (ini.map V.int ++ [lst + 1].map V.int)) = HG at *
          have nw : ¬ (HT.sIx (ns.map V.int).length 0 none = 0 ∧ HT.sIx (ns.map V.int).length (ns.map V.int).length (some 1) = (ns.map V.int).length) := not_whole (k := 1) (by omega)
          refine ⟨_, rfl, _, rfl, p, _, rfl, spG, fun c => absurd c nw, fun _ t7 n7 => ?_⟩
          have ec7 : cutV (ns.map V.int) none (some 1) = (ns.take 1).map V.int := by
            rw [List.map_take]
            exact cutV_to (k := 1) (by omega)
          have S7 := same_new (o := .tup (cutV (ns.map V.int) none (some 1))) n7
          have BH := BG.new (o := .tup (cutV (ns.map V.int) none (some 1))) n7
          have s1 := sqT_same S7 s1
          have s3 := sqT_same S7 s3
          have s6 := sqT_same S7 s6
          have spH := sqT_same S7 spG
          have s7 : SqT K (upd HG t7 (.tup (cutV (ns.map V.int) none (some 1)))) t7 ((ns.take 1).map V.int) := by rw [ec7]; exact SqT.of upd_same
          generalize upd HG t7 (.tup (cutV (ns.map V.int) none (some 1))) = HH at *
          refine ⟨szFive, fun l nl => ⟨_, rfl, b, 5, rfl, BH.new nl, by decide, fun r HZ r0 r1 BZ UZ => ?_⟩⟩
          have hlst := BH.keepL nl UZ
          have spZ := (BH.new nl).tup UZ (sqT_same (same_new nl) spH)
          have s1 := (BH.new nl).tup UZ (sqT_same (same_new nl) s1)
          have s3 := (BH.new nl).tup UZ (sqT_same (same_new nl) s3)
          have s4 := (BH.new nl).tup UZ (sqT_same (same_new nl) s6)
          have s5 := (BH.new nl).tup UZ (sqT_same (same_new nl) s7)
          have c : r = 0 ∨ r = 1 ∨ r = 2 ∨ r = 3 ∨ r = 4 := by omega
          rcases c with rfl | rfl | rfl | rfl | rfl
          · exact ⟨l, _, _, _, rfl, rfl, SqL.of hlst, rfl, _, _, _, _, _, _, _, rfl, BZ, spZ, s1⟩
          · exact ⟨l, _, _, _, rfl, rfl, SqL.of hlst, rfl, _, _, _, _, _, _, _, rfl, BZ, spZ, spZ⟩
          · exact ⟨l, _, _, _, rfl, rfl, SqL.of hlst, rfl, _, _, _, _, _, _, _, rfl, BZ, spZ, s3⟩
          · exact ⟨l, _, _, _, rfl, rfl, SqL.of hlst, rfl, _, _, _, _, _, _, _, rfl, BZ, spZ, s4⟩
          · exact ⟨l, _, _, _, rfl, rfl, SqL.of hlst, rfl, _, _, _, _, _, _, _, rfl, BZ, spZ, s5⟩
      clear BA spA
      rintro σ HA ⟨v2, v6, v7, q2, ms, o9, o10, rfl, BA, spA, sqA⟩
      -- is_above
      refine ⟨fun σ H' => ∃ (v2 v6 v7 v8 : Option V) (o9 o10 : Option V), σ = [some (.ref a), some (.ref b), v2, some (.ref p), some (.str (pt ns)), v6, v7, some (.str (num dg)), v8, o9, o10, none, none] ∧ Box H' b ∧ SqT K H' p (ns.map V.int), ?_, ?_⟩
      · refine ⟨_, rfl, _, rfl, p, q2, ns, ms, rfl, spA, sqA, hp.1, fun HB S => ?_⟩
        have BB := BA.same S
        have spB := sqT_same S spA
        have sqB := sqT_same S sqA
        refine ⟨_, rfl, q2, _, rfl, .inr sqB, _, rfl, p, _, rfl, .inr spB, _, _, rfl, rfl, _, rfl, ?_⟩
        rw [List.length_map, List.length_map]
        refine ite2 (fun c => ?_) (fun c => ?_)
        · have lt := of_decide_eq_true c
          refine ⟨_, rfl, _, rfl, p, _, rfl, .inr spB, _, rfl, q2, _, rfl, sqB, ?_, ?_⟩
          · rintro ⟨_, e⟩
            rw [List.length_map, List.length_map, HT.sIx_nat, Nat.min_eq_left (by omega)] at e
            omega
          · intro _ t nt
            have ec : cutV (ms.map V.int) none (some ((ns.map V.int).length : Int)) = (ms.take ns.length).map V.int := by
              rw [List.length_map, cutV_to (by rw [List.length_map]; omega), List.map_take]
            rw [ec]
            refine ⟨_, rfl, .tuple ((ms.take ns.length).map .int), .tuple (ns.map .int), .tup (SqT.of upd_same) dpI, .tup (sqT_same (same_new nt) spB) dpI, shaped_tup _, shaped_tup _, ?_⟩
            have e : ab ns ms = PyData.eqv (.tuple ((ms.take ns.length).map .int)) (.tuple (ns.map .int)) := by unfold ab; rw [decide_eq_true (show (ns.length : Int) < ms.length from lt), Bool.true_and]
            rw [← e]
            exact ⟨_, _, .bool (ab ns ms), rfl, .bl _, .bl _, Td.bool.short (by decide) (by decide), _, rfl, iteF ⟨_, _, _, _, _, _, rfl, BB.new nt, sqT_same (same_new nt) spB⟩⟩
        · have e : ab ns ms = false := by unfold ab; rw [decide_eq_false (show ¬ (ns.length : Int) < ms.length from fun y => c (decide_eq_true y)), Bool.false_and]
          rw [e]
          exact ⟨_, _, .bool false, rfl, .bl _, .bl _, Td.bool.short (by decide) (by decide), _, rfl, iteF ⟨_, _, _, _, _, _, rfl, BB, spB⟩⟩
      clear BA spA sqA
      rintro σ HA ⟨v2, v6, v7, v8, o9, o10, rfl, BA, spA⟩
      -- one, two
      refine ⟨_, rfl, b, 4, rfl, BA, by decide, fun i HB i0 i1 BB UB => ?_⟩
      have spB := BA.tup UB spA
      refine ⟨_, rfl, b, 6, rfl, BB, by decide, fun j HC j0 j1 BC UC => ?_⟩
      have spC := BB.tup UC spB
      have nl1 : ns.length ≤ 1000 := by have := hp.2.1; omega
      have shc : Short (.tuple ((ns ++ [i, j]).map PyData.int)) := (Td.tup (TdA.ints fun n hn => by
        rcases List.mem_append.mp hn with h | h
        · exact sml n h
        · rcases List.mem_cons.mp h with rfl | h
          · exact Sm.of (by omega) (by omega)
          · rw [List.mem_singleton.mp h]
            exact Sm.of (by omega) (by omega))).short (by decide) (by rw [List.length_append]; show ns.length + 2 ≤ 1048576; omega)
      refine ⟨_, rfl, _, rfl, _, rfl, p, ns, i, j, rfl, spC, hp.1, nl1, fun t HD SD ht => ?_⟩
      have BD := BC.same SD
      have spD := sqT_same SD spC
      refine ⟨_, rfl, _, rfl, _, rfl, szTwo', fun u nu => ?_⟩
      have spE := sqT_same (same_new (o := .tup [V.int i, V.int j]) nu) spD
      refine ⟨p, u, _, _, rfl, rfl, spE, SqT.of upd_same, fun e => hp.1 (List.map_eq_nil_iff.mp e), ?_, fun e => (by cases e), fun _ x nx => ?_⟩
      · rw [List.length_map]
        exact Nat.le_trans (show ns.length + 2 ≤ 1002 by omega) (by decide)
      have S2 := (same_new (o := .tup [V.int i, V.int j]) nu).trans (same_new (o := .tup (ns.map V.int ++ [V.int i, V.int j])) nx)
      have BE := BD.same S2
      have spF := sqT_same S2 spD
      have ht := S2 _ _ ht
      have hx : upd (upd HD u (.tup [V.int i, V.int j])) x (.tup (ns.map V.int ++ [V.int i, V.int j])) x = some (.tup ((ns ++ [i, j]).map V.int)) := by rw [List.map_append]; exact upd_same
      generalize upd (upd HD u (.tup [V.int i, V.int j])) x (.tup (ns.map V.int ++ [V.int i, V.int j])) = HE at *
      refine ⟨_, _, .tuple ((ns ++ [i, j]).map .int), rfl, .tup (SqT.of ht) dpI, .tup (SqT.of hx) dpI, shc, _, rfl, iteF ?_⟩
      refine ⟨_, rfl, _, rfl, _, rfl, _, rfl, p, ns, i, j, rfl, spF, hp.1, nl1, fun t2 HF SF ht2 => ?_⟩
      refine ⟨p, t2, ns, ns ++ [i, j], rfl, sqT_same SF spF, SqT.of ht2, hp.1, fun HG SG => ?_⟩
      rw [ab_child]
      exact ⟨_, _, .bool true, rfl, .bl _, .bl _, Td.bool.short (by decide) (by decide), _, rfl, iteF ⟨_, _, _, _, _, _, _, _, _, rfl, (BE.same SF).same SG⟩⟩
    · rintro σ H2 ⟨v2, v3, v4, v5, v6, v7, v8, v9, v10, rfl, B2⟩
      exact q _
end
end LB

set_option maxRecDepth 100000
set_option maxHeartbeats 8000000
namespace LB
open PySem PySem.Spec PyProof.Rows L2
open PySem.W (nsIn findIn subIn typeIn mroIn keepIn codeIn hasDictIn isClsIn specialIn takesIn)
/-- the law's def keeps its promise, from what the top has written -/
theorem all_mk {l : PySem.W.OpenLaw} {w : World} {K : PySem.W.Frag} {h : Heap} {mg : Str → Option Value} {fa : Addr} (X : K.In h) (G : h.Ns mainGlobals mg) (hfa : mg "law" = some (.ref fa))
    {fCell fDig fDr fAl fWn fWp fRp fAb fCh fLp fLn fLi fLw : Addr} {odCell anCell odDig anDig odDr anDr odAl anAl odWn anWn odWp anWp odRp anRp odAb anAb odCh anCh odLp anLp odLn anLn odLi anLi odLw anLw : Option Addr} {slCell slDig slDr slAl slWn slWp slRp slAb slCh slLp slLn slLi slLw : Array (Option Value)} {ocCell kVCell dcCell pmCell cdCell ctCell ocDig kVDig dcDig pmDig cdDig ctDig ocDr kVDr dcDr pmDr cdDr ctDr ocAl kVAl dcAl pmAl cdAl ctAl ocWn kVWn dcWn pmWn cdWn ctWn ocWp kVWp dcWp pmWp cdWp ctWp ocRp kVRp dcRp pmRp cdRp ctRp ocAb kVAb dcAb pmAb cdAb ctAb ocCh kVCh dcCh pmCh cdCh ctCh ocLp kVLp dcLp pmLp cdLp ctLp ocLn kVLn dcLn pmLn cdLn ctLn ocLi kVLi dcLi pmLi cdLi ctLi ocLw kVLw dcLw pmLw cdLw ctLw : Value} {tD : Tok}
    (aCell : nsIn K mainGlobals "_law_cell" = some (some (.ref fCell)))
    (lCell : K.lookup fCell = some ⟨ocCell, odCell, .func (PySem.W.fnOf "_law_cell" "_law_cell" (defArgs sCell) (defBody sCell) (defScope sCell) .none kVCell dcCell pmCell anCell cdCell ctCell), slCell⟩)
    (cCell : codeIn K cdCell "_law_cell" = true)
    (kCell : keepIn K (.ref fCell) = true)
    (aDig : nsIn K mainGlobals "_law_digits" = some (some (.ref fDig)))
    (lDig : K.lookup fDig = some ⟨ocDig, odDig, .func (PySem.W.fnOf "_law_digits" "_law_digits" (defArgs sDigits) (defBody sDigits) (defScope sDigits) .none kVDig dcDig pmDig anDig cdDig ctDig), slDig⟩)
    (cDig : codeIn K cdDig "_law_digits" = true)
    (kDig : keepIn K (.ref fDig) = true)
    (aDr : nsIn K mainGlobals "_law_draw" = some (some (.ref fDr)))
    (lDr : K.lookup fDr = some ⟨ocDr, odDr, .func (PySem.W.fnOf "_law_draw" "_law_draw" (defArgs sDraw) (defBody sDraw) (defScope sDraw) .none kVDr dcDr pmDr anDr cdDr ctDr), slDr⟩)
    (cDr : codeIn K cdDr "_law_draw" = true)
    (kDr : keepIn K (.ref fDr) = true)
    (aAl : nsIn K mainGlobals "_law_alike" = some (some (.ref fAl)))
    (lAl : K.lookup fAl = some ⟨ocAl, odAl, .func (PySem.W.fnOf "_law_alike" "_law_alike" (defArgs sAlike) (defBody sAlike) (defScope sAlike) .none kVAl dcAl pmAl anAl cdAl ctAl), slAl⟩)
    (cAl : codeIn K cdAl "_law_alike" = true)
    (kAl : keepIn K (.ref fAl) = true)
    (aWn : nsIn K mainGlobals "writes_number" = some (some (.ref fWn)))
    (lWn : K.lookup fWn = some ⟨ocWn, odWn, .func (PySem.W.fnOf "writes_number" "writes_number" (defArgs sWritesNumber) (defBody sWritesNumber) (defScope sWritesNumber) .none kVWn dcWn pmWn anWn cdWn ctWn), slWn⟩)
    (cWn : codeIn K cdWn "writes_number" = true)
    (kWn : keepIn K (.ref fWn) = true)
    (aWp : nsIn K mainGlobals "write_path" = some (some (.ref fWp)))
    (lWp : K.lookup fWp = some ⟨ocWp, odWp, .func (PySem.W.fnOf "write_path" "write_path" (defArgs sWritePath) (defBody sWritePath) (defScope sWritePath) .none kVWp dcWp pmWp anWp cdWp ctWp), slWp⟩)
    (cWp : codeIn K cdWp "write_path" = true)
    (kWp : keepIn K (.ref fWp) = true)
    (aRp : nsIn K mainGlobals "read_path" = some (some (.ref fRp)))
    (lRp : K.lookup fRp = some ⟨ocRp, odRp, .func (PySem.W.fnOf "read_path" "read_path" (defArgs sReadPath) (defBody sReadPath) (defScope sReadPath) .none kVRp dcRp pmRp anRp cdRp ctRp), slRp⟩)
    (cRp : codeIn K cdRp "read_path" = true)
    (kRp : keepIn K (.ref fRp) = true)
    (aAb : nsIn K mainGlobals "is_above" = some (some (.ref fAb)))
    (lAb : K.lookup fAb = some ⟨ocAb, odAb, .func (PySem.W.fnOf "is_above" "is_above" (defArgs sIsAbove) (defBody sIsAbove) (defScope sIsAbove) .none kVAb dcAb pmAb anAb cdAb ctAb), slAb⟩)
    (cAb : codeIn K cdAb "is_above" = true)
    (kAb : keepIn K (.ref fAb) = true)
    (aCh : nsIn K mainGlobals "child_path" = some (some (.ref fCh)))
    (lCh : K.lookup fCh = some ⟨ocCh, odCh, .func (PySem.W.fnOf "child_path" "child_path" (defArgs sChildPath) (defBody sChildPath) (defScope sChildPath) .none kVCh dcCh pmCh anCh cdCh ctCh), slCh⟩)
    (cCh : codeIn K cdCh "child_path" = true)
    (kCh : keepIn K (.ref fCh) = true)
    (aLp : nsIn K mainGlobals "_law_path" = some (some (.ref fLp)))
    (lLp : K.lookup fLp = some ⟨ocLp, odLp, .func (PySem.W.fnOf "_law_path" "_law_path" (defArgs sLPath) (defBody sLPath) (defScope sLPath) .none kVLp dcLp pmLp anLp cdLp ctLp), slLp⟩)
    (cLp : codeIn K cdLp "_law_path" = true)
    (kLp : keepIn K (.ref fLp) = true)
    (aLn : nsIn K mainGlobals "_law_near" = some (some (.ref fLn)))
    (lLn : K.lookup fLn = some ⟨ocLn, odLn, .func (PySem.W.fnOf "_law_near" "_law_near" (defArgs sLNear) (defBody sLNear) (defScope sLNear) .none kVLn dcLn pmLn anLn cdLn ctLn), slLn⟩)
    (cLn : codeIn K cdLn "_law_near" = true)
    (kLn : keepIn K (.ref fLn) = true)
    (aLi : nsIn K mainGlobals "_law_is_path" = some (some (.ref fLi)))
    (lLi : K.lookup fLi = some ⟨ocLi, odLi, .func (PySem.W.fnOf "_law_is_path" "_law_is_path" (defArgs sLIsPath) (defBody sLIsPath) (defScope sLIsPath) .none kVLi dcLi pmLi anLi cdLi ctLi), slLi⟩)
    (cLi : codeIn K cdLi "_law_is_path" = true)
    (kLi : keepIn K (.ref fLi) = true)
    (aLw : nsIn K mainGlobals "law" = some (some (.ref fLw)))
    (lLw : K.lookup fLw = some ⟨ocLw, odLw, .func (PySem.W.fnOf "law" "law" (defArgs sLaw) (defBody sLaw) (defScope sLaw) .none kVLw dcLw pmLw anLw cdLw ctLw), slLw⟩)
    (cLw : codeIn K cdLw "law" = true)
    (kLw : keepIn K (.ref fLw) = true)
    (z0 : nsIn K mainGlobals "len" = some none)
    (z1 : nsIn K mainGlobals "range" = some none)
    (z2 : nsIn K mainGlobals "int" = some none)
    (z3 : nsIn K mainGlobals "repr" = some none)
    (z4 : nsIn K mainGlobals "tuple" = some none)
    (z5 : nsIn K mainGlobals "str" = some none)
    (z6 : nsIn K mainGlobals "all" = some none)
    (cDM : nsIn K mainGlobals "DIGITS_MOST" = some (some (.int 7 tD))) :
    ∃ fd : FuncData, (∀ (s : Shared) (u : Value), BindsTo s fd ⟨[u], []⟩ [("script", u)]) ∧ ∀ base : Heap, K.In base → base.Ns mainGlobals mg → FnG l.prog w K mg base CX0 4 fa fd ["script"] (spLaw K) := by
  have FCell := fun_mk (st := sCell) lCell cCell kCell
  have bCell := FCell.binds (ps := ["script", "k"]) fun _ _ _ _ _ _ us hl => match us, hl with | [_, _], _ => rfl
  have mCell := PySem.W.mg_of X G aCell
  have FDig := fun_mk (st := sDigits) lDig cDig kDig
  have bDig := FDig.binds (ps := ["script", "first", "last"]) fun _ _ _ _ _ _ us hl => match us, hl with | [_, _, _], _ => rfl
  have mDig := PySem.W.mg_of X G aDig
  have FDr := fun_mk (st := sDraw) lDr cDr kDr
  have bDr := FDr.binds (ps := ["box", "many"]) fun _ _ _ _ _ _ us hl => match us, hl with | [_, _], _ => rfl
  have mDr := PySem.W.mg_of X G aDr
  have FAl := fun_mk (st := sAlike) lAl cAl kAl
  have bAl := FAl.binds (ps := ["one", "two"]) fun _ _ _ _ _ _ us hl => match us, hl with | [_, _], _ => rfl
  have mAl := PySem.W.mg_of X G aAl
  have FWn := fun_mk (st := sWritesNumber) lWn cWn kWn
  have bWn := FWn.binds (ps := ["text"]) fun _ _ _ _ _ _ us hl => match us, hl with | [_], _ => rfl
  have mWn := PySem.W.mg_of X G aWn
  have FWp := fun_mk (st := sWritePath) lWp cWp kWp
  have bWp := FWp.binds (ps := ["path"]) fun _ _ _ _ _ _ us hl => match us, hl with | [_], _ => rfl
  have mWp := PySem.W.mg_of X G aWp
  have FRp := fun_mk (st := sReadPath) lRp cRp kRp
  have bRp := FRp.binds (ps := ["text"]) fun _ _ _ _ _ _ us hl => match us, hl with | [_], _ => rfl
  have mRp := PySem.W.mg_of X G aRp
  have FAb := fun_mk (st := sIsAbove) lAb cAb kAb
  have bAb := FAb.binds (ps := ["one", "two"]) fun _ _ _ _ _ _ us hl => match us, hl with | [_, _], _ => rfl
  have mAb := PySem.W.mg_of X G aAb
  have FCh := fun_mk (st := sChildPath) lCh cCh kCh
  have bCh := FCh.binds (ps := ["path", "scope", "part"]) fun _ _ _ _ _ _ us hl => match us, hl with | [_, _, _], _ => rfl
  have mCh := PySem.W.mg_of X G aCh
  have FLp := fun_mk (st := sLPath) lLp cLp kLp
  have bLp := FLp.binds (ps := ["box"]) fun _ _ _ _ _ _ us hl => match us, hl with | [_], _ => rfl
  have mLp := PySem.W.mg_of X G aLp
  have FLn := fun_mk (st := sLNear) lLn cLn kLn
  have bLn := FLn.binds (ps := ["box", "text"]) fun _ _ _ _ _ _ us hl => match us, hl with | [_, _], _ => rfl
  have mLn := PySem.W.mg_of X G aLn
  have FLi := fun_mk (st := sLIsPath) lLi cLi kLi
  have bLi := FLi.binds (ps := ["text"]) fun _ _ _ _ _ _ us hl => match us, hl with | [_], _ => rfl
  have mLi := PySem.W.mg_of X G aLi
  have FLw := fun_mk (st := sLaw) lLw cLw kLw
  have n0 := PySem.W.mg_none_of X G z0
  have n1 := PySem.W.mg_none_of X G z1
  have n2 := PySem.W.mg_none_of X G z2
  have n3 := PySem.W.mg_none_of X G z3
  have n4 := PySem.W.mg_none_of X G z4
  have n5 := PySem.W.mg_none_of X G z5
  have n6 := PySem.W.mg_none_of X G z6
  have M0 : Names mg := ⟨n0, n1, n2, n3⟩
  have M : NamesT mg := ⟨M0, n4, n5, n6⟩
  have hDM := PySem.W.mg_of X G cDM
  have e := hfa.symm.trans (PySem.W.mg_of X G aLw)
  cases e
  refine ⟨_, fun s v => .of_eq rfl, fun base _ _ => ok_law FLw ?_⟩
  exact
    { D := ⟨_, _, ok_draw FDr M0, mDr, kDr, bDr⟩, G := ⟨_, _, ok_digits FDig M0 FCell mCell bCell, mDig, kDig, bDig⟩, A := ⟨_, _, ok_alike FAl M0, mAl, kAl, bAl⟩,
      L := ⟨_, _, ok_lpath FLp M FDr mDr bDr, mLp, kLp, bLp⟩, N := ⟨_, _, ok_near FLn M FDr mDr bDr, mLn, kLn, bLn⟩, I := ⟨_, _, ok_ispath FLi, mLi, kLi, bLi⟩,
      W := ⟨_, _, ok_write FWp M, mWp, kWp, bWp⟩, R := ⟨_, _, ok_read FRp M hDM FWn mWn bWn, mRp, kRp, bRp⟩, B := ⟨_, _, ok_above FAb M, mAb, kAb, bAb⟩, C := ⟨_, _, ok_child FCh, mCh, kCh, bCh⟩, names := M }
end LB

open PySem PySem.W PyProof.Rows
set_option maxRecDepth 100000 in
set_option maxHeartbeats 0 in
theorem PySem.Challenge.cw_asforetold_k02_paths_written_holds : PySem.Challenge.rw_asforetold_k02_paths_written.Holds := by
  w_on; o_law; k_head; (case hw => w_witness2)
  k_fill
  refine LB.walk_free (l := PySem.Challenge.rw_asforetold_k02_paths_written) (n := 63) (k := 4) (x := "script") (CX := L2.CX0) (sp := LB.spLaw) rfl (by decide) rfl ⟨rfl, by decide, by decide⟩ (fun w h Y => PySem.W.kIn_of Y) ?F (fun K H a ns hl _ hS => ⟨a, ns, rfl, hS, fun _ => rfl⟩) fun _ _ _ _ z => z
  case F =>
    intro w mg fa h KX G hmg
    refine' LB.all_mk KX G hmg ?aCell ?lCell ?cCell ?kCell ?aDig ?lDig ?cDig ?kDig ?aDr ?lDr ?cDr ?kDr ?aAl ?lAl ?cAl ?kAl ?aWn ?lWn ?cWn ?kWn ?aWp ?lWp ?cWp ?kWp ?aRp ?lRp ?cRp ?kRp ?aAb ?lAb ?cAb ?kAb ?aCh ?lCh ?cCh ?kCh ?aLp ?lLp ?cLp ?kLp ?aLn ?lLn ?cLn ?kLn ?aLi ?lLi ?cLi ?kLi ?aLw ?lLw ?cLw ?kLw ?z0 ?z1 ?z2 ?z3 ?z4 ?z5 ?z6 ?cDM
    (case aCell => k_is)
    (case lCell => k_is)
    (case cCell => k_is)
    (case kCell => k_is)
    (case aDig => k_is)
    (case lDig => k_is)
    (case cDig => k_is)
    (case kDig => k_is)
    (case aDr => k_is)
    (case lDr => k_is)
    (case cDr => k_is)
    (case kDr => k_is)
    (case aAl => k_is)
    (case lAl => k_is)
    (case cAl => k_is)
    (case kAl => k_is)
    (case aWn => k_is)
    (case lWn => k_is)
    (case cWn => k_is)
    (case kWn => k_is)
    (case aWp => k_is)
    (case lWp => k_is)
    (case cWp => k_is)
    (case kWp => k_is)
    (case aRp => k_is)
    (case lRp => k_is)
    (case cRp => k_is)
    (case kRp => k_is)
    (case aAb => k_is)
    (case lAb => k_is)
    (case cAb => k_is)
    (case kAb => k_is)
    (case aCh => k_is)
    (case lCh => k_is)
    (case cCh => k_is)
    (case kCh => k_is)
    (case aLp => k_is)
    (case lLp => k_is)
    (case cLp => k_is)
    (case kLp => k_is)
    (case aLn => k_is)
    (case lLn => k_is)
    (case cLn => k_is)
    (case kLn => k_is)
    (case aLi => k_is)
    (case lLi => k_is)
    (case cLi => k_is)
    (case kLi => k_is)
    (case aLw => k_is)
    (case lLw => k_is)
    (case cLw => k_is)
    (case kLw => k_is)
    (case z0 => k_is)
    (case z1 => k_is)
    (case z2 => k_is)
    (case z3 => k_is)
    (case z4 => k_is)
    (case z5 => k_is)
    (case z6 => k_is)
    (case cDM => k_is)

