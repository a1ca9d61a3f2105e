import PyProof.Rows.All
import Wide.All
import OpenK.AllK
import Wide.FinOn
import HandS.ForExc
import HandS.EndBits
import HandS.Wide
import HandS.TupLe
import PyProof.StrBlock2
import HandS.Text
import HandS.Dict
import HandS.DictComp
import HandS.List
import HandS.Walk
import PyProof.EqLayable
import HandS.Codes
import HandS.Comp
import HandS.TupAny
import HandS.Strs
import HandS.NoneIn
import HandS.Iter
import KE.KEqSeq
import PySem.Challenge.RW_asforetold_k44_any_block_is_read_so
set_option Elab.async false
set_option linter.all false
set_option maxRecDepth 100000
set_option maxHeartbeats 2000000
namespace LB
open PySem PySem.Spec PyProof.Rows L2
/-! ### defs that are called where no repr is under way -/
def Free (A : Around) : Prop := A.guards = some []
/-- as a def's promise, but told of calls from places at which no repr is under way alone -/
structure FnG (P : Program) (w : World) (K : PySem.W.Frag) (mg : Str → Option Value) (base : Heap) (CX : CXT) (k : Nat) (f : Addr) (fd : FuncData) (ps : List Str) (sp : Sp) : Prop where
  many : ∀ xs H Q E, sp xs H Q E → xs.length = ps.length
  goes : ∀ (A : Around) (fr : List Env) (s : Shared) (H : Hp) (a : Args) (us : List Value) (xs : List V) (Q : VK) (E : XK), Free A → Room k A → Env0 P w K mg base A fr s H →
    BindsTo s fd a (ps.zip us) → Vals xs us → sp xs H Q E → codeAny (model P w) A (.call (.ref f) a) (CR CX fr P w H s Q E) s
theorem FnG.ofOk {P : Program} {w : World} {K : PySem.W.Frag} {mg : Str → Option Value} {base : Heap} {CX : CXT} {k : Nat} {f : Addr} {fd : FuncData} {ps : List Str} {sp : Sp} (F : FnOk P w K mg base CX k f fd ps sp) : FnG P w K mg base CX k f fd ps sp :=
  ⟨F.len, fun A fr s H a us xs Q E _ => F.run A fr s H a us xs Q E⟩
theorem FnG.up {P : Program} {w : World} {K : PySem.W.Frag} {mg : Str → Option Value} {base : Heap} {CX : CXT} {j k : Nat} {f : Addr} {fd : FuncData} {ps : List Str} {sp : Sp} (F : FnG P w K mg base CX j f fd ps sp) (h : j ≤ k) : FnG P w K mg base CX k f fd ps sp :=
  ⟨F.many, fun A fr s H a us xs Q E g r => F.goes A fr s H a us xs Q E g (r.mono h)⟩
theorem Free.deeper {A : Around} (g : Free A) (env : Env) : Free (A.deeper env) := by
  first
    | exact g
    | (unfold Free at *; simpa [Around.deeper] using g)
/-- by the body, as fn_of -/
theorem FnG.by_body {CX : CXT} {P : Program} {w : World} {K : PySem.W.Frag} {mg : Str → Option Value} {base : Heap} {k : Nat} {f : Addr} {x q : Str} {pa : Arguments} {bd : List Stmt} {sc : Scope} {v1 v2 v3 v4 v5 v6 v7 : Value} {a1 a2 : Option Addr}
    {sl : Array (Option Value)} {N ps : List Str} {sp : Sp} (at_ : K.lookup f = some ⟨v7, a2, .func (PySem.W.fnOf x q pa bd sc v1 v2 v3 v4 a1 v5 v6), sl⟩) (code : PySem.W.codeIn K v5 q = true) (S : FnScope N ps sc)
    (many : ∀ xs H Q E, sp xs H Q E → xs.length = ps.length)
    (body : ∀ (A : Around) (fr : List Env) (s : Shared) (H : Hp) (xs : List V) (Q : VK) (E : XK), Free (A.deeper (envOfC q sc s.heap.objs.size f v5)) → Room k (A.deeper (envOfC q sc s.heap.objs.size f v5)) → sp xs H Q E →
      ∃ t, PSs (cxOf CX P w K mg base N q sc f v5 A fr s H E) bd t ∧ t { nx := fun _ H' => Q .non H', rt := Q } (start N xs) H) :
    FnG P w K mg base CX (k + 1) f (PySem.W.fnOf x q pa bd sc v1 v2 v3 v4 a1 v5 v6) ps sp := by
  constructor
  · exact many
  intro A fr s H a us xs Q E g room e0 bound vals want
  have kin : K.In s.heap := e0.mod.kin.keeps fun b o z => (e0.bs b o z).1
  have nolim : s.heap.NoLimit := e0.mod.nolimit.keeps fun b o z => (e0.bs b o z).1
  have len := many _ _ _ _ want
  obtain ⟨t, derived, reads⟩ := body A fr s H xs Q E (g.deeper _) (room.deeper _) want
  have kinds : ∀ y ∈ ps.zip us, sc.names.lookup y.1 = some .local ∨ (sc.names.lookup y.1 = some .cell ∧ ((cellsFrom (s.heap.objs.size + 1) sc.names []).lookup y.1).isSome = true) := by
    rintro ⟨n, v⟩ hy
    cases S.par n (List.of_mem_zip hy).1 with
    | inl z => exact .inl z
    | inr z => exact .inr ⟨z, PySem.W.cellsFrom_some _ _ _ (.inl z)⟩
  refine codeAny_call_function room.depth (kin _ _ at_) rfl S.co S.gen rfl (PySem.W.codeRec_of kin code) (bound _ _ _ _ ?_)
  refine wpAny_newFunctionEnv_cells S.kind kinds ?_
  intro env he s1 into
  subst he
  refine ⟨nolim.keeps into.toInCall.keep, codeAny_func ?_⟩
  have I := inv_start (CX := CX) (E := E) S room.hd e0 len vals into
  refine wpAny_mono (derived.run [] s1 (start N xs) H _ I reads) ?_ (fun _ _ z => z)
  intro fl s2 z
  cases fl with
  | next =>
    obtain ⟨σ2, H2, J, q⟩ := z
    exact ⟨.non, H2, J.os, J.bare, J.base, J.hok, rfl, q⟩
  | ret u =>
    obtain ⟨v, σ2, H2, J, r, q⟩ := z
    exact ⟨v, H2, J.os, J.bare, J.base, J.hok, r, q⟩
  | brk =>
    obtain ⟨_, _, _, q⟩ := z
    exact q.elim
  | cont =>
    obtain ⟨_, _, _, q⟩ := z
    exact q.elim
theorem FnG.of_fun {P : Program} {w : World} {K : PySem.W.Frag} {mg : Str → Option Value} {base : Heap} {x q : Str} {st : Stmt} {f : Addr} {fd : FuncData} {N ps : List Str} {k : Nat} {sp : Sp} (F : Fun K x q st f fd) (S : FnScope N ps (defScope st)) (many : ∀ xs H Q E, sp xs H Q E → xs.length = ps.length)
    (body : ∀ (cdv : Value) (A : Around) (fr : List Env) (s : Shared) (H : Hp) (xs : List V) (Q : VK) (E : XK), Free (A.deeper (envOfC q (defScope st) s.heap.objs.size f cdv)) → Room k (A.deeper (envOfC q (defScope st) s.heap.objs.size f cdv)) → sp xs H Q E →
      ∃ t, PSs (cxOf CX0 P w K mg base N q (defScope st) f cdv A fr s H E).nox (defBody st) t ∧ t { nx := fun _ H' => Q .non H', rt := Q } (start N xs) H) : FnG P w K mg base CX0 (k + 1) f fd ps sp := by
  obtain ⟨v7, a2, v2, v3, v4, a1, v5, v6, sl, rfl, at_, code⟩ := F.ex
  refine FnG.by_body at_ code S many ?_
  intro A fr s H xs Q E g r want
  obtain ⟨t, h, q⟩ := body v5 A fr s H xs Q E g r want
  exact ⟨t, h.nox, q⟩
section
variable {X : Cx} {CX : CXT} {k : Nat} {f : Addr} {fd : FuncData} {ps : List Str} {sp : Sp} {dvs : List V} {ds : List Value} {E : XK} {x : Str} {p pos : Pos} {e : Expr} {es : List Expr} {t : TA}
/-- f(e, ..), f such a def -/
theorem pe_callF (g : Free X.A) (F : FnG X.prog X.w X.K X.mg X.base CX k f fd ps sp) (hr : Room k X.A) (hg : Gl X x) (hm : X.mg x = some (.ref f)) (hk : PySem.W.keepIn X.K (.ref f) = true) (hb : Binds X.K fd ps ds) (hd : Vals dvs ds) (hx : Passes CX X E)
    (ha : PA X (e :: es) t) (hdb : (x == ("__debug__" : Str)) = false := by decide) (he : starEach (e :: es) X.env = (false, eval e X.env) :: starEach es X.env := by rfl) (hpl : (backTo pos (starEach es X.env)).any (·.1) = false := by rfl) :
    PE X (.Call (.Name x p) (e :: es) [] pos) (tCall sp dvs E t) := by
  constructor
  intro pins s σ H Q I h
  refine wpAny_Call_Name_kw (ld_glob I hg hm ?_ hdb)
  refine PySem.W.callWith_K (h₀ := X.base) I.ok.mod.kin hk (thn (ha.run pos pins s σ H _ I h) ?_) he hpl
  rintro us s1 ⟨xs, H1, I1, r, q⟩
  refine ⟨I1.kIn, ?_⟩
  have r2 : Vals (xs ++ dvs) (us ++ ds) := r.append hd
  have len : (us ++ ds).length = ps.length := r2.length.symm.trans (F.many _ _ _ _ q)
  refine wpAny_call (codeAny_mono (F.goes X.A X.stack s1 H1 ⟨us, []⟩ (us ++ ds) (xs ++ dvs) Q E g hr I1.env0 (hb s1 us I1.kIn len) r2 q) ?_)
  intro res s2 z
  match res, z with
  | .error err, z => exact hx pins σ H1 s1 err s2 I1 z
  | .ok (.ret u), z => exact I1.after z
  | .ok .next, z => exact False.elim z
  | .ok .brk, z => exact False.elim z
  | .ok .cont, z => exact False.elim z
end
end LB

set_option maxRecDepth 100000
set_option maxHeartbeats 2000000
namespace LB
open PySem PySem.Spec PyProof.Rows L2
/-! ### repr of data -/
/-- data whose repr is short enough to be told -/
structure Short (d : PyData) : Prop where
  sh : d.showable = true
  nd : d.hasDict = false
  dp : d.depth ≤ 50
  len : d.shown.length ≤ sizeLine
def rRepr (K : PySem.W.Frag) : List V → Hp → VK → Prop := fun xs H Q => ∃ v d, xs = [v] ∧ Dp K H v d ∧ Short d ∧ Q (.str d.shown) H
theorem call_repr {X : Cx} (g : Free X.A) (hu : X.A.units + 64 < cLine) : CallR X (.builtin "repr") (rRepr X.K) := by
  intro pins s σ H xs us Q I r h
  obtain ⟨v, d, rfl, hd, S, q⟩ := h
  obtain ⟨u, rfl, ru⟩ := vals1 r
  obtain ⟨as, rd⟩ := Dp.reads I d v u hd ru
  have fin : ∀ (a : Addr), Reads s.heap (.ref a) d as → wpAny (model X.prog X.w) X.A (call (.builtin "repr") [.ref a]) (EP X pins σ Q) X.xe s := fun a ra => by
    have dp := S.dp
    refine repr_of_reads' ra S.sh (PyData.noDict_hsm S.nd) g (by omega) (fun _ _ z => z) ?_ S.len
    intro h' t tk kept
    exact ⟨.str d.shown, H, I.kept kept, ⟨_, rfl⟩, q⟩
  cases rd with
  | none => exact PySem.P.repr_of_none ⟨.str _, H, I.tok _, ⟨_, rfl⟩, q⟩
  | bool b => exact PySem.P.repr_of_bool ⟨.str _, H, I.tok _, ⟨_, rfl⟩, q⟩
  | int i t => exact PySem.P.repr_of_int (by have z := S.sh; simpa [PyData.showable] using z) ⟨.str _, H, I.tok _, ⟨_, rfl⟩, q⟩
  | str x t => exact PySem.P.repr_of_str ⟨.str _, H, I.tok _, ⟨_, rfl⟩, q⟩ S.len
  | list h1 h2 h3 h4 => exact fin _ (.list h1 h2 h3 h4)
  | tuple h1 h2 h3 h4 => exact fin _ (.tuple h1 h2 h3 h4)
  | dict h1 h2 h3 h4 h5 => exact absurd S.nd (by simp [PyData.hasDict])
/-- small ints, texts of up to a million signs in all -/
theorem Short.of {d : PyData} (h1 : d.showable = true) (h2 : d.hasDict = false) (h3 : d.depth ≤ 50) (h4 : d.leavesShort 13 = true) (h5 : d.bulk ≤ 2 ^ 20) : Short d :=
  ⟨h1, h2, h3, PyData.shown_fits_bulk (by decide) (by decide) h4 h5⟩
theorem log_small {i : Int} (h : i.natAbs < 10 ^ 12) : i.natAbs.log2 < 1920 := by
  by_cases z : i.natAbs = 0
  · rw [z]; decide
  · have := (Nat.log2_lt z (k := 1920)).mpr (Nat.lt_trans h (by decide))
    exact this
theorem leaf_small {i : Int} (h : i.natAbs < 10 ^ 12) : (PyData.shown (.int i)).length ≤ 13 := PyData.shown_int_le (by simpa using h)
/-- an int below 10 ^ 12 in size -/
def Sm (i : Int) : Prop := i.natAbs < 10 ^ 12
theorem Sm.of {i : Int} (h1 : -1000000000 ≤ i) (h2 : i ≤ 1000000000) : Sm i := by
  have e : (10 : Nat) ^ 12 = 1000000000000 := by decide
  unfold Sm
  rw [e]
  omega
/-! ### two values of one repr -/
def spAlike (K : PySem.W.Frag) : Sp := fun vs H Q _ => ∃ x y d, vs = [x, y] ∧ Dp K H x d ∧ Dp K H y d ∧ Short d ∧ Q (.bl true) H
end LB

set_option maxRecDepth 100000
set_option maxHeartbeats 2000000
namespace LB
open PySem PySem.Spec PyProof.Rows L2
/-! ### the end of a law's row whose def is told of free places alone -/
section
variable {P : Program} {w : World} {K : PySem.W.Frag} {mg mb : Str → Option Value} {CX : CXT} {k : Nat} {fa a : Addr} {fd : FuncData} {x : Str} {sp : Sp} {z : Shared} {us : List Value} {ns : List Int}
/-- what law answers, from a heap H that tracks the script at most -/
theorem answer_from {H : Hp} (g : z.gens = #[]) (only : Only H) (alone : ∀ b, H b ≠ none → b = a) (isL : ∃ d n, (z.heap.get? a).map Obj.data = some (.seq d n)) (kin : K.In z.heap) (apart : H a ≠ none → K.lookup a = none)
    (ng : z.heap.Ns mainGlobals mg) (nb : z.heap.Ns builtinsNs mb) (boot : ∀ y : Str, y ≠ "__name__" → mb y = bootBuiltins y) (nolim : z.heap.NoLimit) (hok : HOk P w H z.heap) (room : Room k callerA)
    (F : ∀ b : Heap, K.In b → b.Ns mainGlobals mg → FnG P w K mg b CX k fa fd [x] sp) (binds : ∀ (s : Shared) (u : Value), BindsTo s fd ⟨[u], []⟩ [(x, u)])
    (want : sp [.ref a] H (fun v _ => v = .bl true) fun _ _ _ => False) (calm : ∀ e s', CX [] H z (fun _ _ _ => False) e s' → False) :
    codeAny (model P w) callerA (.call (.ref fa) ⟨[.ref a], []⟩) (fun r s' => r = .ok (.ret (.bool true)) ∧ OldK z.heap s'.heap ∧ s'.os = z.os ∧ AllBare s'.gens) z := by
  have dictFree : ∀ {b : Addr} {o : Obj} {es : Array DictEntry} {n : Nat}, z.heap.get? b = some o → o.data = .dict es n → H b = none := by
    intro b o es n at_ da
    by_cases q : H b = none
    · exact q
    · have eb := alone b q
      subst eb
      obtain ⟨d, m, e⟩ := isL
      rw [at_] at e
      have e2 := Option.some.inj e
      rw [da] at e2
      cases e2
  have moved : ∀ {b : Addr} {m : Str → Option Value}, z.heap.Ns b m → (hidT z.heap H).Ns b m := by
    rintro b m ⟨o, es, n, at_, da, r⟩
    exact ⟨o, es, n, hidT_get at_ (dictFree at_ da), da, r⟩
  have kin2 : K.In (hidT z.heap H) := by
    intro b o at_
    refine hidT_get (kin b o at_) ?_
    by_cases q : H b = none
    · exact q
    · have eb := alone b q
      subst eb
      rw [apart q] at at_
      cases at_
  obtain ⟨mc, c1, c2⟩ := nolim
  have e0 : Env0 P w K mg (hidT z.heap H) callerA [] z H :=
    { frames := rfl, mod := ⟨kin2, moved ng, ⟨mb, moved nb, boot⟩, ⟨mc, moved c1, c2⟩⟩, bs := fun _ _ at_ => of_hidT at_, bsz := Nat.le_of_eq (hidT_size _ _), funs := trivial,
      frf := fun b hb => absurd (show b ∈ ([] : List Addr) from hb) List.not_mem_nil, hok := hok, bare := .of_eq g }
  refine codeAny_mono ((F _ kin2 (moved ng)).goes callerA [] z H ⟨[.ref a], []⟩ [.ref a] [.ref a] _ _ rfl room e0 (binds z (.ref a)) (.cons rfl .nil) want) ?_
  intro r s' out
  match r, out with
  | .error e, out => exact (calm e s' out).elim
  | .ok .next, out => exact False.elim out
  | .ok .brk, out => exact False.elim out
  | .ok .cont, out => exact False.elim out
  | .ok (.ret u), out =>
    obtain ⟨v, H', os, bare, un, hok', r', q⟩ := out
    have q' : v = .bl true := q
    subst q'
    have eu : u = Value.bool true := r'
    subst eu
    refine ⟨rfl, OldK.of_keep ?_, os, bare⟩
    intro b o at_
    by_cases q : H b = none
    · exact un.keep b o at_ q (fun y => absurd (show b ∈ ([] : List Addr) from y) List.not_mem_nil) List.not_mem_nil
    · rcases only b with y | ⟨ob, xs, y⟩
      · exact absurd y q
      · obtain ⟨e1, _⟩ := hok b _ y
        obtain ⟨e2, _⟩ := hok' b _ (un.frzs b ob _ y)
        rw [at_] at e1
        cases e1
        exact e2
end
theorem walk_free {l : PySem.W.OpenLaw} {n k : Nat} {q : Program} {loose : List Str} {XP : (Str → Option Value) → Heap → Prop} {YP : World → Heap → Prop} {d : DefRec} {K : Params → PySem.W.Frag} {CX : CXT} {sp : PySem.W.Frag → Sp} {x : Str}
    (most : l.most = some n) (small : n ≤ sizeLine) (plain : d.params.defaults = []) (room : Room k callerA) (hY : ∀ (w : World) (h : Heap), YP w h → (K w.params).In h)
    (F : ∀ (w : World) (mg : Str → Option Value) (fa : Addr) (h : Heap), (K w.params).In h → h.Ns mainGlobals mg → mg d.name = some (.ref fa) →
      ∃ fd : FuncData, (∀ (s : Shared) (u : Value), BindsTo s fd ⟨[u], []⟩ [(x, u)]) ∧ ∀ base : Heap, (K w.params).In base → base.Ns mainGlobals mg → FnG l.prog w (K w.params) mg base CX k fa fd [x] (sp (K w.params)))
    (want : ∀ (K : PySem.W.Frag) (H : Hp) (a : Addr) (ns : List Int), ns.length ≤ n → (∀ i ∈ ns, Builtin.Int.intBits i ≤ 1048576) → SqL K H a (ns.map V.int) → sp K [.ref a] H (fun v _ => v = .bl true) fun _ _ _ => False)
    (calm : ∀ (H : Hp) (s : Shared) (e : Value) (s' : Shared), CX [] H s (fun _ _ _ => False) e s' → False) :
    PySem.W.WalkO q loose XP YP l.row.toRowW d [] (fun f vs => PySem.call f vs) := by
  refine Att.attach_callB most plain ?_
  intro w s₀ z mg mb fa o pm cd doc a us ns G Y ho hd hcd hmg at_ nums len bits g
  have kin := hY w _ Y
  obtain ⟨fd, hb, hF⟩ := F w mg fa _ kin G.T.g hmg
  have vals := vals_ints nums
  have lenU : us.length = ns.length := nums.length
  have lenS : (ns.map V.int).length ≤ sizeLine := by rw [List.length_map]; exact Nat.le_trans len small
  have isL : ∃ d n, (z.heap.get? a).map Obj.data = some (.seq d n) := ⟨us.toArray, _, by rw [at_]; rfl⟩
  cases lk : (K w.params).lookup a with
  | some ob =>
    have eo := kin a ob lk
    rw [at_] at eo
    cases eo
    refine answer_from (H := fun _ => none) g (fun _ => .inl rfl) (fun b y => absurd rfl y) isL kin (fun y => absurd rfl y) G.T.g G.T.b G.T.builtins G.T.nolimit (fun b u y => by cases (show (none : Option HO) = some u from y)) room hF hb ?_ fun e s' => calm _ z e s'
    exact want _ _ a ns len bits (.inr ⟨_, us.toArray, _, lk, rfl, rfl, rfl, by simpa [lenU] using lenS, by simpa using vals⟩)
  | none =>
    let S : HO := .frz { cls := .type "list", data := .seq us.toArray } (.lst (ns.map V.int))
    have yes : upd (fun _ => none) a S a = some S := upd_same
    have no : ∀ b, b ≠ a → upd (fun _ => none) a S b = none := fun b hb => by rw [upd_ne hb]
    refine answer_from (H := upd (fun _ => none) a S) g (fun b => ?_) (fun b y => ?_) isL kin (fun _ => lk) G.T.g G.T.b G.T.builtins G.T.nolimit (fun b u y => ?_) room hF hb ?_ fun e s' => calm _ z e s'
    · by_cases hb : b = a
      · subst hb
        exact .inr ⟨_, _, yes⟩
      · exact .inl (no b hb)
    · exact Classical.byContradiction fun hb => y (no b hb)
    · by_cases hb : b = a
      · subst hb
        have ey := Option.some.inj (yes.symm.trans y)
        subst ey
        exact ⟨at_, lenS, us, _, vals, at_⟩
      · rw [no b hb] at y
        cases y
    · exact want _ _ a ns len bits (.inl (.inr ⟨_, yes⟩))
end LB

set_option maxRecDepth 100000
set_option maxHeartbeats 2000000
namespace LB
open PySem PySem.Spec PyProof.Rows L2
/-! ### text * int -/
theorem op_mulS {X : Cx} : OpR X (binaryOp .Mult) (fun x y H Q => ∃ z n, x = .str z ∧ y = .int n ∧ MulOk z n ∧ Q (.str (Txt.mul z n)) H) := by
  intro pins s σ H x y v u Q I rx ry h
  obtain ⟨z, n, rfl, rfl, ok, q⟩ := h
  obtain ⟨t, rfl⟩ := rx
  obtain ⟨t', rfl⟩ := ry
  exact SB.mul ok fun t' k => ⟨.str _, H, I.tok k, ⟨t', rfl⟩, q⟩
/-! ### len of a text, told of no place -/
theorem call_lenS {X : Cx} : CallR X (.builtin "len") (fun xs H Q => ∃ z : Str, xs = [.str z] ∧ z.length ≤ sizeLine ∧ Q (.int z.length) H) := by
  intro pins s σ H xs us Q I r h
  obtain ⟨z, rfl, hz, q⟩ := h
  exact call_len pins s σ H _ us Q I r ⟨_, z.length, rfl, ⟨hz, rfl⟩, q⟩
end LB

set_option maxRecDepth 100000
set_option maxHeartbeats 4000000
namespace LB
open PySem PySem.Spec PyProof.Rows L2 TL
/-! ### texts by their codes, slices, dicts made out of a text -/
def ofL (l : List Nat) : Str := ⟨l.toArray⟩
theorem tl_ofL (l : List Nat) : tl (ofL l) = l := by simp [ofL, tl]
theorem ofL_len (l : List Nat) : (ofL l).length = l.length := by rw [len_tl, tl_ofL]
theorem ofL_app (a b : List Nat) : ofL a ++ ofL b = ofL (a ++ b) := ext_tl (by rw [tl_append, tl_ofL, tl_ofL, tl_ofL])
theorem ofL_tl (z : Str) : ofL (tl z) = z := ext_tl (tl_ofL _)
theorem ofL_inj {a b : List Nat} (h : ofL a = ofL b) : a = b := by rw [← tl_ofL a, h, tl_ofL]
theorem joinL_nil : ∀ ps : List (List Nat), joinL [] ps = ps.flatten
  | [] => rfl
  | [p] => by simp [joinL]
  | p :: q :: r => by
    show p ++ ([] ++ joinL [] (q :: r)) = _
    rw [joinL_nil (q :: r)]
    simp
theorem join_ofL (cs : List Nat) : Txt.join "" (cs.map fun c => ofL [c]) = ofL cs := by
  refine ext_tl ?_
  rw [TL.join_eq, tl_join, tl_ofL, show tl ("" : Str) = [] by decide, joinL_nil, List.map_map]
  induction cs with
  | nil => rfl
  | cons c r ih =>
    rw [List.map_cons, List.flatten_cons, ih]
    show tl (ofL [c]) ++ r = c :: r
    rw [tl_ofL]
    rfl
theorem ones_sum : ∀ cs : List Nat, ((cs.map fun c => ofL [c]).map (·.length)).sum = cs.length
  | [] => rfl
  | c :: r => by
    rw [List.map_cons, List.map_cons, List.sum_cons, ones_sum r, ofL_len, List.length_cons, List.length_cons, List.length_nil]
    omega
theorem ones_room {cs : List Nat} (h : cs.length ≤ 16777216) : ((cs.map fun c => ofL [c]).map (·.length)).sum + (cs.map fun c => ofL [c]).length * (("" : Str)).length ≤ 16777216 := by
  rw [ones_sum, show (("" : Str)).length = 0 by decide, Nat.mul_zero]
  exact h
theorem dc_it {J : It} {n : Nat} {G : Hp → Prop} {Y : Nat → Hp → V → Hp → Prop} (w : Walk J n G Y) {g : TG} {tt : TT} {tk tv : TE} {vs : List Nat} {σ : L2.St} {H1 : Hp} {D : Addr} {Qd : Hp → Prop} (Pv : Nat → Hp → Prop) (h0 : Pv 0 (upd H1 D (.dK []))) (hG : ∀ i H, i ≤ n → Pv i H → G H)
    (hs : ∀ i x H H', i < n → Pv i H → Y i H x H' → g x (wipe σ vs) H' fun σ2 H2 => wipe σ2 vs = wipe σ vs ∧ tt σ2 H2 fun b H3 =>
      if b = true then tk σ2 H3 fun y H4 => tv σ2 H4 fun z H5 => ∃ kvs k, y = kV k ∧ H5 D = some (.dK kvs) ∧ kvs.length < sizeLine ∧ Pv (i + 1) (upd H5 D (.dK (putK kvs k z))) else Pv (i + 1) H3) (hd : ∀ H, Pv n H → Qd H) :
    ∃ W : Nat → Nat → Hp → Prop, (∃ m, W 0 m (upd H1 D (.dK []))) ∧ ∀ i m H, W i m H →
      (J.stop i H ∧ Qd H) ∨ (J.go i H ∧ ∃ Nx : Hp → Prop, (∀ H', Nx H' → ∃ m', m' < m ∧ W (i + 1) m' H') ∧ ∀ x H', J.yld i H x H' → g x (wipe σ vs) H' fun σ2 H2 => wipe σ2 vs = wipe σ vs ∧ tt σ2 H2 fun b H3 =>
        if b = true then tk σ2 H3 fun y H4 => tv σ2 H4 fun z H5 => ∃ kvs k, y = kV k ∧ H5 D = some (.dK kvs) ∧ kvs.length < sizeLine ∧ Nx (upd H5 D (.dK (putK kvs k z))) else Nx H3) := by
  refine ⟨fun i m H => m = n - i ∧ i ≤ n ∧ Pv i H, ⟨n, by simp, Nat.zero_le _, h0⟩, ?_⟩
  rintro i m H ⟨rfl, hi, p⟩
  have q := hG i H hi p
  by_cases hlt : i < n
  · exact .inr ⟨w.goes i H hlt q, Pv (i + 1), fun H' p' => ⟨n - (i + 1), by omega, rfl, hlt, p'⟩, fun x H' y => hs i x H H' hlt p (w.yields i H x H' hlt q y)⟩
  · have e : i = n := by omega
    subst e
    exact .inl ⟨w.stops H q, hd H p⟩
/-- the dict of these codes to their signs -/
def signD (l : List Nat) : List (Key × V) := l.foldl (fun kvs (c : Nat) => putK kvs (.inl (c : Int)) (.str (ofL [c]))) []
theorem signD_len : ∀ (l : List Nat) (kvs : List (Key × V)), (l.foldl (fun kvs (c : Nat) => putK kvs (.inl (c : Int)) (.str (ofL [c]))) kvs).length ≤ kvs.length + l.length
  | [], kvs => Nat.le_refl _
  | c :: r, kvs => by
    have h1 := signD_len r (putK kvs (.inl (c : Int)) (.str (ofL [c])))
    have h2 := length_putK kvs (.inl (c : Int)) (.str (ofL [c]))
    rw [List.foldl_cons, List.length_cons]
    omega
theorem signD_val : ∀ (l : List Nat) (kvs : List (Key × V)) (i : Int), valV (l.foldl (fun kvs (c : Nat) => putK kvs (.inl (c : Int)) (.str (ofL [c]))) kvs) (.inl i) = if 0 ≤ i ∧ i.toNat ∈ l then some (.str (ofL [i.toNat])) else valV kvs (.inl i)
  | [], kvs, i => by simp
  | c :: r, kvs, i => by
    rw [List.foldl_cons, signD_val r, valV_put]
    by_cases h0 : 0 ≤ i ∧ i.toNat ∈ r
    · rw [if_pos h0, if_pos ⟨h0.1, List.mem_cons_of_mem _ h0.2⟩]
    · rw [if_neg h0]
      by_cases h1 : (Sum.inl i : Key) = Sum.inl (c : Int)
      · have e : i = (c : Int) := Sum.inl.inj h1
        subst e
        rw [if_pos rfl, if_pos ⟨Int.natCast_nonneg c, by rw [Int.toNat_natCast]; exact List.mem_cons_self ..⟩, Int.toNat_natCast]
      · rw [if_neg h1, if_neg]
        rintro ⟨a, b⟩
        rcases List.mem_cons.mp b with e | e
        · exact h1 (by rw [show i = (c : Int) by omega])
        · exact h0 ⟨a, e⟩
theorem sign_get (l : List Nat) (i : Int) : valV (signD l) (.inl i) = if 0 ≤ i ∧ i.toNat ∈ l then some (.str (ofL [i.toNat])) else none := by
  unfold signD
  rw [signD_val]
  rfl
/-- slices of any list -/
def cutA {α : Type} (xs : List α) (lo hi : Option Int) : List α := (xs.drop (HT.sIx xs.length 0 lo)).take (HT.sIx xs.length xs.length hi - HT.sIx xs.length 0 lo)
theorem cutI (ns : List Int) (lo hi : Option Int) : cutV (ns.map V.int) lo hi = (cutA ns lo hi).map V.int := by
  unfold cutV cutA
  rw [List.length_map, List.map_take, List.map_drop]
theorem cutA_len {α : Type} (xs : List α) (lo hi : Option Int) : (cutA xs lo hi).length ≤ xs.length := by
  unfold cutA
  rw [List.length_take, List.length_drop]
  omega
theorem cutA_nat {α : Type} (xs : List α) (i j : Nat) (hi : i ≤ xs.length) (hj : j ≤ xs.length) : cutA xs (some (i : Int)) (some (j : Int)) = (xs.drop i).take (j - i) := by
  unfold cutA
  rw [HT.sIx_nat, HT.sIx_nat, Nat.min_eq_left hi, Nat.min_eq_left hj]
theorem cutA_head {α : Type} (xs : List α) (j : Nat) (hj : j ≤ xs.length) : cutA xs none (some (j : Int)) = xs.take j := by
  unfold cutA
  rw [HT.sIx_nat, Nat.min_eq_left hj]
  show (xs.drop 0).take (j - 0) = _
  rw [List.drop_zero, Nat.sub_zero]
theorem cutA_tail {α : Type} (xs : List α) (j : Nat) (hj : j ≤ xs.length) : cutA xs (some (j : Int)) none = xs.drop j := by
  unfold cutA
  rw [HT.sIx_nat, Nat.min_eq_left hj]
  show (xs.drop j).take (xs.length - j) = _
  rw [List.take_of_length_le (by rw [List.length_drop]; exact Nat.le_refl _)]
theorem cutA_last {α : Type} (xs : List α) (lo : Option Int) (n : Nat) (h : xs.length = n + 1) : cutA xs lo (some (-1)) = cutA xs lo (some (n : Int)) := by
  have e : HT.sIx xs.length xs.length (some (-1)) = HT.sIx xs.length xs.length (some (n : Int)) := by
    rw [HT.sIx_nat, h]
    show (if (-1 : Int) < 0 then ((-1 : Int) + ((n + 1 : Nat) : Int)).toNat else min (-1 : Int).toNat (n + 1)) = min n (n + 1)
    have c : (-1 : Int) < 0 := by decide
    rw [if_pos c]
    omega
  unfold cutA
  rw [e]
theorem cutS_ofL (cs : List Nat) (lo hi : Option Int) : cutS (ofL cs) lo hi = ofL (cutA cs lo hi) := by
  have e : (ofL cs).length = cs.length := ofL_len cs
  have e2 : (ofL cs).cps.toList = cs := tl_ofL cs
  unfold cutS cutA
  rw [e, e2]
  rfl
theorem cutA_mid {α : Type} (xs : List α) (i j : Nat) : cutA xs (some (i : Int)) (some (j : Int)) = (xs.drop i).take (j - i) := by
  unfold cutA
  rw [HT.sIx_nat, HT.sIx_nat]
  refine List.ext_getElem? fun k => ?_
  simp only [List.getElem?_take, List.getElem?_drop]
  by_cases h : i + k < xs.length
  · rw [Nat.min_eq_left (show i ≤ xs.length by omega)]
    by_cases h2 : k < j - i
    · rw [if_pos h2, if_pos (by omega)]
    · rw [if_neg h2, if_neg (by omega)]
  · rw [List.getElem?_eq_none (show xs.length ≤ i + k by omega)]
    by_cases h3 : i ≤ xs.length
    · rw [Nat.min_eq_left h3, List.getElem?_eq_none (show xs.length ≤ i + k by omega)]
      split <;> split <;> rfl
    · rw [Nat.min_eq_right (show xs.length ≤ i by omega), List.getElem?_eq_none (show xs.length ≤ xs.length + k by omega)]
      split <;> split <;> rfl
theorem rep_flat (n : Nat) (x : Int) : (List.replicate n [V.int x]).flatten = (List.replicate n x).map V.int := by
  induction n with
  | zero => rfl
  | succ n ih =>
    rw [List.replicate_succ, List.flatten_cons, ih, List.replicate_succ, List.map_cons]
    rfl
/-- the text that a def's first row sets -/
def litOf : List Stmt → Str
  | .Assign _ (.Constant (.str s) _ _) _ :: _ => s
  | _ => ""
theorem atI_get {b : List Int} {i : Nat} (h : i < b.length) : atI (b.map V.int) (i : Int) = some (.int (b.getD i 0)) := by
  refine atI_nat (j := i) ?_
  rw [List.getElem?_map, List.getElem?_eq_getElem h]
  simp [List.getD_eq_getElem?_getD, List.getElem?_eq_getElem h]
end LB

set_option maxRecDepth 100000
set_option maxHeartbeats 2000000
namespace LB
open PySem PySem.Spec PyProof.Rows L2
def top (i : Nat) : Stmt := PySem.Challenge.pw_asforetold_k44_any_block_is_read_so.main.body.getD i (.Pass ⟨0, 0, 0, 0⟩)
abbrev sDecP : Stmt := top 7
abbrev sDecH : Stmt := top 8
abbrev sMarks : Stmt := top 9
abbrev sZeros : Stmt := top 10
abbrev sCell : Stmt := top 12
abbrev sDigits : Stmt := top 13
abbrev sDraw : Stmt := top 14
abbrev sPieces : Stmt := top 15
abbrev sStored : Stmt := top 16
abbrev sDueP : Stmt := top 17
abbrev sDueH : Stmt := top 18
abbrev sRead : Stmt := top 19
abbrev sTorn : Stmt := top 20
abbrev sLaw : Stmt := top 21
end LB

set_option maxRecDepth 100000
set_option maxHeartbeats 4000000
namespace LB
open PySem PySem.Spec PyProof.Rows L2
/-! ### the helpers of a law -/
/-- built-ins' names that the module leaves free -/
structure Names (mg : Str → Option Value) : Prop where
  len : mg "len" = none
  range : mg "range" = none
  int : mg "int" = none
  repr : mg "repr" = none
section
variable {P : Program} {w : World} {K : PySem.W.Frag} {mg : Str → Option Value} {base : Heap}
/-- some int comes back -/
def spCellL (K : PySem.W.Frag) : Sp := fun vs H Q _ => ∃ (a : Addr) (ns : List Int) (k : Int), vs = [.ref a, .int k] ∧ SqL K H a (ns.map V.int) ∧ 0 ≤ k ∧ ∀ c : Int, Q (.int c) H
theorem scCell : FnScope ["script", "k"] ["script", "k"] (defScope sCell) := ⟨rfl, rfl, rfl, by decide +kernel, rfl, by decide +kernel, by decide +kernel⟩
theorem ok_cell {f : Addr} {fd : FuncData} (F : Fun K "_law_cell" "_law_cell" sCell f fd) (M : Names mg) : FnOk P w K mg base CX0 1 f fd ["script", "k"] (spCellL K) := by
  refine F.ok scCell (fun vs H Q E h => ?_) (fun cdv A outer s H vs Q E hr h => ?_)
  · obtain ⟨a, ns, k, rfl, _⟩ := h
    rfl
  · obtain ⟨a, ns, k, rfl, hS, h0, q⟩ := h
    refine ⟨_, (pss_cons (ps_if (pt_cmpR op_lt (pv 1) (pe_callB call_len_seq (by rfl) M.len PySem.boot_len (pa_cons (pv 0) pa_nil)) (nomark _)) (pss_one (ps_ret (pe_ix ix_list (pv 0) (pv 1) (fun _ _ => rfl)))) pss_nil)
        (pss_one (ps_ret pe_int))), ?_⟩
    refine ⟨_, rfl, _, rfl, a, _, rfl, .inl hS, _, _, rfl, rfl, _, rfl, ?_⟩
    refine ite2 (fun c => ?_) (fun c => q 0)
    have lt := of_decide_eq_true c
    rw [List.length_map] at lt
    obtain ⟨j, rfl⟩ : ∃ j : Nat, k = (j : Int) := ⟨k.toNat, by omega⟩
    have hj : j < ns.length := by omega
    exact ⟨_, rfl, _, rfl, a, _, _, _, rfl, rfl, hS, atI_nat (v := V.int ns[j]) (by rw [List.getElem?_map, List.getElem?_eq_getElem hj]; rfl), q _⟩
/-- a number of three digits at most -/
def Dig (i : Int) : Prop := 0 ≤ i ∧ i < 1000
/-- a new list of at most 63 * 60 such numbers -/
def spDigits (K : PySem.W.Frag) : Sp := fun vs H Q _ => ∃ (a : Addr) (ns : List Int) (i j : Int), vs = [.ref a, .int i, .int j] ∧ SqL K H a (ns.map V.int) ∧ 0 ≤ i ∧ i ≤ j ∧ j ≤ 63 ∧
  ∀ (ds : List Int) (H' : Hp) (p : Addr), Same H H' → H p = none → H' p = some (.lst (ds.map V.int)) → (∀ d ∈ ds, Dig d) → ds.length ≤ 3780 → Q (.ref p) H'
theorem scDigits : FnScope ["script", "first", "last", "digits", "k", "cell", "turn", "seed"] ["script", "first", "last"] (defScope sDigits) := ⟨rfl, rfl, rfl, by decide +kernel, rfl, by decide +kernel, by decide +kernel⟩
theorem same_upd {H H' : Hp} {p : Addr} {o : HO} (e : Same H H') (n : H p = none) : Same H (upd H' p o) := fun b u q => by
  rw [upd_ne (ne_of_none q n)]
  exact e b u q
theorem dig_more {c : Int} {ds : List Int} (h : ∀ d ∈ ds, Dig d) : ∀ d ∈ ds ++ [c % 1000], Dig d := by
  intro d hd
  rcases List.mem_append.mp hd with h1 | h1
  · exact h d h1
  · rw [List.mem_singleton.mp h1]
    exact ⟨Int.emod_nonneg _ (by decide), Int.emod_lt_of_pos _ (by decide)⟩
theorem lst_more {ds : List Int} {c : Int} : HO.lst (ds.map V.int ++ [V.int c]) = HO.lst ((ds ++ [c]).map V.int) := by rw [List.map_append] <;> rfl
theorem small_line {n : Nat} (h : n ≤ 4000) : n < sizeLine := Nat.lt_of_le_of_lt h (by decide)
theorem ok_digits {f fC : Addr} {fd fdC : FuncData} (F : Fun K "_law_digits" "_law_digits" sDigits f fd) (M : Names mg) (FC : Fun K "_law_cell" "_law_cell" sCell fC fdC) (mCell : mg "_law_cell" = some (.ref fC)) (bCell : Binds K fdC ["script", "k"] []) :
    FnOk P w K mg base CX0 2 f fd ["script", "first", "last"] (spDigits K) := by
  have GCell : FnOk P w K mg base CX0 1 fC fdC ["script", "k"] (spCellL K) := ok_cell FC M
  have kCell := FC.kp
  refine F.ok scDigits (fun vs H Q E h => ?_) (fun cdv A outer s H vs Q E hr h => ?_)
  · obtain ⟨a, ns, i, j, rfl, _⟩ := h
    rfl
  · obtain ⟨a, ns, i, j, rfl, hS, h0, hij, hj, q⟩ := h
    have nd := scDigits.nd
    refine ⟨_, (pss_cons (ps_set (i := 3) nd rfl (Or.inl rfl) (pe_lst pa_nil))
        (pss_cons (ps_for PassesOwn.never rfl (pi_range2 (by rfl) M.range (pa_cons (pv 1) (pa_cons (pv 2) pa_nil))) (pg_name (i := 4) nd rfl (Or.inl rfl)) (pss_cons (ps_set (i := 5) nd rfl (Or.inl rfl) (pe_call GCell (hr.mono (by decide)) rfl mCell kCell bCell .nil pass0 (pa_cons (pv 0) (pa_cons (pv 4) pa_nil))))
        (pss_cons (ps_if (pt_cmpR op_lt (pv 5) pe_int (nomark _)) (pss_one (ps_set (i := 5) nd rfl (Or.inl rfl) (pe_op op_sub pe_int (pe_op op_mul pe_int (pv 5))))) pss_nil)
        (pss_one (ps_if (pt_cmpR op_ge (pv 5) pe_int (nomark _)) (pss_one (ps_for PassesOwn.never rfl (pi_range1 (by rfl) M.range (pa_cons pe_int pa_nil)) (pg_name (i := 6) nd rfl (Or.inl rfl)) (pss_one (ps_if (pt_cmpR op_gt (pv 5) pe_int (nomark _)) (pss_cons (ps_expr (pe_bm PySem.F.plainAttrs_list PySem.F.slot_list_append PySem.F.type_list_append mt_append (pv 3) (pa_cons (pe_op op_mod (pe_callTy call_int1 (by rfl) M.int (by decide +kernel) (pa_cons (pv 5) pa_nil)) pe_int) pa_nil)))
        (pss_one (ps_set (i := 5) nd rfl (Or.inl rfl) (pe_op op_fdiv (pv 5) pe_int)))) pss_nil)))) (pss_cons (ps_set (i := 7) nd rfl (Or.inl rfl) (pe_op op_mod (pe_callTy call_int1 (by rfl) M.int (by decide +kernel) (pa_cons (pe_op op_add (pe_op op_add (pe_op op_mul (pv 5) pe_int) (pe_op op_mul (pv 4) pe_int)) pe_int) pa_nil)) pe_int))
        (pss_one (ps_for PassesOwn.never rfl (pi_range1 (by rfl) M.range (pa_cons pe_int pa_nil)) (pg_name (i := 6) nd rfl (Or.inl rfl)) (pss_cons (ps_set (i := 7) nd rfl (Or.inl rfl) (pe_op op_mod (pe_callTy call_int1 (by rfl) M.int (by decide +kernel) (pa_cons (pe_op op_add (pe_op op_add (pe_op op_mul (pv 7) pe_int) (pe_op op_mul pe_int (pv 6))) pe_int) pa_nil)) pe_int))
        (pss_one (ps_expr (pe_bm PySem.F.plainAttrs_list PySem.F.slot_list_append PySem.F.type_list_append mt_append (pv 3) (pa_cons (pe_op op_mod (pe_callTy call_int1 (by rfl) M.int (by decide +kernel) (pa_cons (pe_op op_fdiv (pv 7) pe_int) pa_nil)) pe_int) pa_nil)))))))))))))
        (pss_one (ps_ret (pv 3))))), ?_⟩
    refine ⟨(by show 0 ≤ sizeLine; decide), fun p hp => ?_⟩
    refine ⟨_, rfl, _, rfl, i, j, rfl, ⟨by omega, by omega, by omega, by omega⟩, ?_⟩
    refine for_range (lo := i) (n := (j - i).toNat) (fun m σ H' => ∃ (ds : List Int) (v4 v5 v6 v7 : Option V), σ = [some (.ref a), some (.int i), some (.int j), some (.ref p), v4, v5, v6, v7] ∧ Same H H' ∧ H' p = some (.lst (ds.map V.int)) ∧ (∀ d ∈ ds, Dig d) ∧ ds.length ≤ 60 * m)
      ⟨[], none, none, none, none, rfl, same_upd (Same.refl H) hp, upd_same, by simp, by simp⟩ ?_ ?_
    · rintro m σ H' hm ⟨ds, v4, v5, v6, v7, rfl, sm, hl, hd, hlen⟩
      refine ⟨_, rfl, _, rfl, a, ns, _, rfl, sm.seq hS, by omega, fun c => ?_⟩
      refine ⟨_, rfl, _, _, rfl, rfl, _, rfl, ?_⟩
      refine ite2 (fun _ => ?_) (fun _ => ?_)
      · refine ⟨_, rfl, _, _, rfl, rfl, .inl ⟨by decide, by decide⟩, _, _, rfl, rfl, ?_⟩
        generalize (1 : Int) - 2 * c = c'
        (refine ⟨_, rfl, _, _, rfl, rfl, _, rfl, ?_⟩
         refine ite2 (fun _ => ?_) (fun _ => ?_)
         · refine ⟨60, rfl, by decide, by decide, for_range (n := 60) (fun t σ H2 => ∃ (ds : List Int) (c : Int) (v6 : Option V), σ = [some (.ref a), some (.int i), some (.int j), some (.ref p), some (.int (i + m)), some (.int c), v6, v7] ∧ Same H H2 ∧ H2 p = some (.lst (ds.map V.int)) ∧ (∀ d ∈ ds, Dig d) ∧ ds.length ≤ 60 * m + t)
             ⟨ds, _, v6, rfl, sm, hl, hd, by omega⟩ ?_ ?_⟩
           · rintro t σ H2 ht ⟨ds, c, v6, rfl, sm, hl, hd, hlen⟩
             refine ⟨_, rfl, _, _, rfl, rfl, _, rfl, ?_⟩
             refine ite2 (fun _ => ?_) (fun _ => ?_)
             · refine ⟨_, rfl, .inl ⟨rfl, _, SqL.of hl⟩, _, rfl, .inl ⟨_, rfl, _, _, rfl, rfl, (by show (0 : Int) < 1000; decide), p, _, _, rfl, rfl, hl, (by rw [List.length_map]; exact small_line (by omega)), ?_⟩⟩
               refine ⟨_, rfl, _, _, rfl, rfl, ⟨by decide, by decide⟩, ?_⟩
               exact ⟨ds ++ [c % 1000], _, _, rfl, same_upd sm hp, upd_same.trans (congrArg some lst_more), dig_more hd, by rw [List.length_append, List.length_singleton]; omega⟩
             · exact ⟨ds, _, _, rfl, sm, hl, hd, by omega⟩
           · rintro σ H2 ⟨ds, c, v6, rfl, sm, hl, hd, hlen⟩
             exact ⟨ds, _, _, _, _, rfl, sm, hl, hd, by omega⟩
         · refine ⟨_, rfl, _, _, rfl, rfl, .inr ⟨by decide, by decide⟩, _, rfl, _, _, rfl, rfl, .inr ⟨by decide, by decide⟩, _, _, rfl, rfl, _, _, rfl, rfl, .inl ⟨_, rfl, _, _, rfl, rfl, (by show (0 : Int) < 2147483399; decide), ?_⟩⟩
           refine ⟨12, rfl, by decide, by decide, for_range (n := 12) (fun t σ H2 => ∃ (ds : List Int) (c : Int) (v6 : Option V) (s7 : Int), σ = [some (.ref a), some (.int i), some (.int j), some (.ref p), some (.int (i + m)), some (.int c), v6, some (.int s7)] ∧ Same H H2 ∧ H2 p = some (.lst (ds.map V.int)) ∧ (∀ d ∈ ds, Dig d) ∧ ds.length ≤ 60 * m + t)
             ⟨ds, _, v6, _, rfl, sm, hl, hd, by omega⟩ ?_ ?_⟩
           · rintro t σ H2 ht ⟨ds, c, v6, s7, rfl, sm, hl, hd, hlen⟩
             refine ⟨_, rfl, _, _, rfl, rfl, .inr ⟨by decide, by decide⟩, _, rfl, _, _, rfl, rfl, .inl ⟨by decide, by decide⟩, _, _, rfl, rfl, _, _, rfl, rfl, .inl ⟨_, rfl, _, _, rfl, rfl, (by show (0 : Int) < 2147483563; decide), ?_⟩⟩
             refine ⟨_, rfl, .inl ⟨rfl, _, SqL.of hl⟩, _, rfl, _, _, rfl, rfl, ⟨by decide, by decide⟩, .inl ⟨_, rfl, _, _, rfl, rfl, (by show (0 : Int) < 1000; decide), p, _, _, rfl, rfl, hl, (by rw [List.length_map]; exact small_line (by omega)), ?_⟩⟩
             exact ⟨ds ++ [_ % 1000], _, _, _, rfl, same_upd sm hp, upd_same.trans (congrArg some lst_more), dig_more hd, by rw [List.length_append, List.length_singleton]; omega⟩
           · rintro σ H2 ⟨ds, c, v6, s7, rfl, sm, hl, hd, hlen⟩
             exact ⟨ds, _, _, _, _, rfl, sm, hl, hd, by omega⟩)
      · (refine ⟨_, rfl, _, _, rfl, rfl, _, rfl, ?_⟩
         refine ite2 (fun _ => ?_) (fun _ => ?_)
         · refine ⟨60, rfl, by decide, by decide, for_range (n := 60) (fun t σ H2 => ∃ (ds : List Int) (c : Int) (v6 : Option V), σ = [some (.ref a), some (.int i), some (.int j), some (.ref p), some (.int (i + m)), some (.int c), v6, v7] ∧ Same H H2 ∧ H2 p = some (.lst (ds.map V.int)) ∧ (∀ d ∈ ds, Dig d) ∧ ds.length ≤ 60 * m + t)
             ⟨ds, _, v6, rfl, sm, hl, hd, by omega⟩ ?_ ?_⟩
           · rintro t σ H2 ht ⟨ds, c, v6, rfl, sm, hl, hd, hlen⟩
             refine ⟨_, rfl, _, _, rfl, rfl, _, rfl, ?_⟩
             refine ite2 (fun _ => ?_) (fun _ => ?_)
             · refine ⟨_, rfl, .inl ⟨rfl, _, SqL.of hl⟩, _, rfl, .inl ⟨_, rfl, _, _, rfl, rfl, (by show (0 : Int) < 1000; decide), p, _, _, rfl, rfl, hl, (by rw [List.length_map]; exact small_line (by omega)), ?_⟩⟩
               refine ⟨_, rfl, _, _, rfl, rfl, ⟨by decide, by decide⟩, ?_⟩
               exact ⟨ds ++ [c % 1000], _, _, rfl, same_upd sm hp, upd_same.trans (congrArg some lst_more), dig_more hd, by rw [List.length_append, List.length_singleton]; omega⟩
             · exact ⟨ds, _, _, rfl, sm, hl, hd, by omega⟩
           · rintro σ H2 ⟨ds, c, v6, rfl, sm, hl, hd, hlen⟩
             exact ⟨ds, _, _, _, _, rfl, sm, hl, hd, by omega⟩
         · refine ⟨_, rfl, _, _, rfl, rfl, .inr ⟨by decide, by decide⟩, _, rfl, _, _, rfl, rfl, .inr ⟨by decide, by decide⟩, _, _, rfl, rfl, _, _, rfl, rfl, .inl ⟨_, rfl, _, _, rfl, rfl, (by show (0 : Int) < 2147483399; decide), ?_⟩⟩
           refine ⟨12, rfl, by decide, by decide, for_range (n := 12) (fun t σ H2 => ∃ (ds : List Int) (c : Int) (v6 : Option V) (s7 : Int), σ = [some (.ref a), some (.int i), some (.int j), some (.ref p), some (.int (i + m)), some (.int c), v6, some (.int s7)] ∧ Same H H2 ∧ H2 p = some (.lst (ds.map V.int)) ∧ (∀ d ∈ ds, Dig d) ∧ ds.length ≤ 60 * m + t)
             ⟨ds, _, v6, _, rfl, sm, hl, hd, by omega⟩ ?_ ?_⟩
           · rintro t σ H2 ht ⟨ds, c, v6, s7, rfl, sm, hl, hd, hlen⟩
             refine ⟨_, rfl, _, _, rfl, rfl, .inr ⟨by decide, by decide⟩, _, rfl, _, _, rfl, rfl, .inl ⟨by decide, by decide⟩, _, _, rfl, rfl, _, _, rfl, rfl, .inl ⟨_, rfl, _, _, rfl, rfl, (by show (0 : Int) < 2147483563; decide), ?_⟩⟩
             refine ⟨_, rfl, .inl ⟨rfl, _, SqL.of hl⟩, _, rfl, _, _, rfl, rfl, ⟨by decide, by decide⟩, .inl ⟨_, rfl, _, _, rfl, rfl, (by show (0 : Int) < 1000; decide), p, _, _, rfl, rfl, hl, (by rw [List.length_map]; exact small_line (by omega)), ?_⟩⟩
             exact ⟨ds ++ [_ % 1000], _, _, _, rfl, same_upd sm hp, upd_same.trans (congrArg some lst_more), dig_more hd, by rw [List.length_append, List.length_singleton]; omega⟩
           · rintro σ H2 ⟨ds, c, v6, s7, rfl, sm, hl, hd, hlen⟩
             exact ⟨ds, _, _, _, _, rfl, sm, hl, hd, by omega⟩)
    · rintro σ H' ⟨ds, v4, v5, v6, v7, rfl, sm, hl, hd, hlen⟩
      exact ⟨_, rfl, q ds H' p sm hp hl hd (by omega)⟩
end
end LB

set_option maxRecDepth 100000
set_option maxHeartbeats 4000000
namespace LB
open PySem PySem.Spec PyProof.Rows L2
/-! ### the box of draws -/
/-- at b: a list of the digits' list and of a place -/
def Box (H : Hp) (b : Addr) : Prop := ∃ (l : Addr) (ds : List Int) (n : Int), H b = some (.lst [.ref l, .int n]) ∧ H l = some (.lst (ds.map V.int)) ∧ b ≠ l ∧ 0 ≤ n ∧ ds.length ≤ 3780
/-- all stands but what is at b, and the list of the digits is the same one -/
structure But (b : Addr) (H H' : Hp) : Prop where
  k : ∀ a o, a ≠ b → H a = some o → H' a = some o
  d : ∀ l n, H b = some (.lst [.ref l, .int n]) → ∃ n' : Int, H' b = some (.lst [.ref l, .int n'])
theorem But.refl (b : Addr) (H : Hp) : But b H H := ⟨fun _ _ _ q => q, fun l n h => ⟨n, h⟩⟩
theorem But.trans {b : Addr} {H H1 H2 : Hp} (x : But b H H1) (y : But b H1 H2) : But b H H2 := ⟨fun a o n q => y.k a o n (x.k a o n q), fun l n h => let ⟨n', h'⟩ := x.d l n h; y.d l n' h'⟩
theorem But.of {b : Addr} {H H' : Hp} (e : Same H H') : But b H H' := ⟨fun a o _ q => e a o q, fun l n h => ⟨n, e _ _ h⟩⟩
theorem But.new {b : Addr} {H H' : Hp} {p : Addr} {o : HO} (x : But b H H') (n : H' p = none) : But b H (upd H' p o) :=
  ⟨fun a u na q => by
    have q' := x.k a u na q
    rw [upd_ne (ne_of_none q' n)]
    exact q', fun l m h => by
    obtain ⟨n', h'⟩ := x.d l m h
    exact ⟨n', by rw [upd_ne (ne_of_none h' n)]; exact h'⟩⟩
theorem But.seqT {K : PySem.W.Frag} {b : Addr} {H H' : Hp} {a : Addr} {xs : List V} (x : But b H H') (ne : ∀ ys, H b ≠ some (.tup ys)) (nf : ∀ o u, H b ≠ some (.frz o u)) (h : SqT K H a xs) : SqT K H' a xs := by
  rcases h with (h | ⟨o, h⟩) | h
  · exact .inl (.inl (x.k a _ (fun z => ne _ (z ▸ h)) h))
  · exact .inl (.inr ⟨o, x.k a _ (fun z => nf _ _ (z ▸ h)) h⟩)
  · exact .inr h
theorem Box.ne {H : Hp} {b : Addr} (B : Box H b) : (∀ ys, H b ≠ some (.tup ys)) ∧ ∀ o u, H b ≠ some (.frz o u) := by
  obtain ⟨l, ds, n, h, _⟩ := B
  rw [h]
  exact ⟨fun ys z => (by cases z), fun o u z => (by cases z)⟩
theorem Box.tup {K : PySem.W.Frag} {b : Addr} {H H' : Hp} {a : Addr} {xs : List V} (B : Box H b) (x : But b H H') (h : SqT K H a xs) : SqT K H' a xs := x.seqT B.ne.1 B.ne.2 h
theorem Box.new {H : Hp} {b p : Addr} {o : HO} (B : Box H b) (n : H p = none) : Box (upd H p o) b := by
  obtain ⟨l, ds, k, h, hl, r⟩ := B
  exact ⟨l, ds, k, by rw [upd_ne (ne_of_none h n)]; exact h, by rw [upd_ne (ne_of_none hl n)]; exact hl, r⟩
section
variable {P : Program} {w : World} {K : PySem.W.Frag} {mg : Str → Option Value} {base : Heap}
def spDraw (K : PySem.W.Frag) : Sp := fun vs H Q _ => ∃ (b : Addr) (m : Int), vs = [.ref b, .int m] ∧ Box H b ∧ 0 < m ∧ ∀ (r : Int) (H' : Hp), 0 ≤ r → r < m → Box H' b → But b H H' → Q (.int r) H'
theorem scDraw : FnScope ["box", "many", "at"] ["box", "many"] (defScope sDraw) := ⟨rfl, rfl, rfl, by decide +kernel, rfl, by decide +kernel, by decide +kernel⟩
theorem ok_draw {f : Addr} {fd : FuncData} (F : Fun K "_law_draw" "_law_draw" sDraw f fd) (M : Names mg) : FnOk P w K mg base CX0 1 f fd ["box", "many"] (spDraw K) := by
  refine F.ok scDraw (fun vs H Q E h => ?_) (fun cdv A outer s H vs Q E hr h => ?_)
  · obtain ⟨b, m, rfl, _⟩ := h
    rfl
  · obtain ⟨b, m, rfl, ⟨l, ds, n, hb, hl, ne, h0, hlen⟩, hm, q⟩ := h
    have nd := scDraw.nd
    refine ⟨_, (pss_cons (ps_set (i := 2) nd rfl (Or.inl rfl) (pe_ix ix_list (pv 0) pe_int (fun _ _ => rfl)))
        (pss_cons (ps_asg (pe_op op_add (pv 2) pe_int) (pg_sub (pv 0) pe_int set_list))
        (pss_cons (ps_if (pt_cmpR op_lt (pv 2) (pe_callB call_len_seq (by rfl) M.len PySem.boot_len (pa_cons (pe_ix ix_list (pv 0) pe_int (fun _ _ => rfl)) pa_nil)) (nomark _)) (pss_one (ps_ret (pe_op op_mod (pe_callTy call_int1 (by rfl) M.int (by decide +kernel) (pa_cons (pe_ix ix_list (pe_ix ix_list (pv 0) pe_int (fun _ _ => rfl)) (pv 2) (fun _ _ => rfl)) pa_nil)) (pv 1)))) pss_nil)
        (pss_one (ps_ret (pe_op op_mod (pe_callTy call_int1 (by rfl) M.int (by decide +kernel) (pa_cons (pe_op op_add (pe_op op_mul (pv 2) pe_int) pe_int) pa_nil)) (pv 1))))))), ?_⟩
    refine ⟨_, rfl, b, _, _, _, rfl, rfl, SqL.of hb, rfl, ?_⟩
    refine ⟨_, rfl, _, _, rfl, rfl, _, rfl, b, _, _, 1, rfl, rfl, hb, rfl, ?_⟩
    have hb' : upd H b (.lst [.ref l, .int (n + 1)]) b = some (.lst [.ref l, .int (n + 1)]) := upd_same
    have hl' : upd H b (.lst [.ref l, .int (n + 1)]) l = some (.lst (ds.map V.int)) := by rw [upd_ne ne.symm]; exact hl
    have B : Box (upd H b (.lst [.ref l, .int (n + 1)])) b := ⟨l, ds, n + 1, hb', hl', ne, by omega, hlen⟩
    have U : But b H (upd H b (.lst [.ref l, .int (n + 1)])) := ⟨fun a o na z => by rw [upd_ne na]; exact z, fun l' n' z => by
      rw [hb] at z
      cases z
      exact ⟨n + 1, hb'⟩⟩
    refine ⟨_, rfl, _, rfl, b, _, _, _, rfl, rfl, SqL.of hb', rfl, l, _, rfl, .inl (SqL.of hl'), _, _, rfl, rfl, _, rfl, ?_⟩
    refine ite2 (fun c => ?_) (fun c => ?_)
    · have lt := of_decide_eq_true c
      rw [List.length_map] at lt
      obtain ⟨j, rfl⟩ : ∃ j : Nat, n = (j : Int) := ⟨n.toNat, by omega⟩
      have hj : j < ds.length := by omega
      refine ⟨_, rfl, b, _, _, _, rfl, rfl, SqL.of hb', rfl, _, rfl, l, _, _, _, rfl, rfl, SqL.of hl', atI_nat (v := V.int ds[j]) (by rw [List.getElem?_map, List.getElem?_eq_getElem hj]; rfl), .inl ⟨_, rfl, _, rfl, _, _, rfl, rfl, hm, ?_⟩⟩
      exact q _ _ (Int.emod_nonneg _ (by omega)) (Int.emod_lt_of_pos _ hm) B U
    · refine ⟨_, rfl, _, _, rfl, rfl, .inr ⟨by decide, by decide⟩, _, _, rfl, rfl, .inl ⟨_, rfl, _, rfl, _, _, rfl, rfl, hm, ?_⟩⟩
      exact q _ _ (Int.emod_nonneg _ (by omega)) (Int.emod_lt_of_pos _ hm) B U
end
end LB

set_option maxRecDepth 100000
set_option maxHeartbeats 4000000
namespace LB
open PySem PySem.Spec PyProof.Rows L2
/-! ### tuples stay -/
structure Tp (H H' : Hp) : Prop where
  tup : ∀ a xs, H a = some (.tup xs) → H' a = some (.tup xs)
  frz : ∀ a o u, H a = some (.frz o u) → H' a = some (.frz o u)
theorem Tp.refl (H : Hp) : Tp H H := ⟨fun _ _ z => z, fun _ _ _ z => z⟩
theorem Tp.trans {H H1 H2 : Hp} (x : Tp H H1) (y : Tp H1 H2) : Tp H H2 := ⟨fun a xs z => y.tup a xs (x.tup a xs z), fun a o u z => y.frz a o u (x.frz a o u z)⟩
theorem Tp.same {H H' : Hp} (e : Same H H') : Tp H H' := ⟨fun a xs z => e _ _ z, fun a o u z => e _ _ z⟩
theorem Tp.but {b : Addr} {H H' : Hp} (B : Box H b) (e : But b H H') : Tp H H' :=
  ⟨fun a xs z => e.k a _ (fun y => B.ne.1 xs (y ▸ z)) z, fun a o u z => e.k a _ (fun y => B.ne.2 o u (y ▸ z)) z⟩
theorem Tp.lst {H : Hp} {l : Addr} {xs : List V} {o : HO} (h : H l = some (.lst xs)) : Tp H (upd H l o) :=
  ⟨fun a ys z => by rw [upd_ne (ne_of z h (by intro y; cases y))]; exact z, fun a p u z => by rw [upd_ne (ne_of z h (by intro y; cases y))]; exact z⟩
theorem Tp.seq {K : PySem.W.Frag} {H H' : Hp} {a : Addr} {xs : List V} (x : Tp H H') (h : SqT K H a xs) : SqT K H' a xs := by
  rcases h with (h | ⟨o, h⟩) | h
  · exact .inl (.inl (x.tup _ _ h))
  · exact .inl (.inr ⟨o, x.frz _ _ _ h⟩)
  · exact .inr h
theorem Box.apart {H : Hp} {b l : Addr} (B : Box H b) (n : H l = none) : l ≠ b := fun z => by
  obtain ⟨_, _, _, h, _⟩ := B
  rw [z, h] at n
  cases n
theorem Box.keepL {H H' : Hp} {b l : Addr} {xs : List V} (B : Box H b) (n : H l = none) (U : But b (upd H l (.lst xs)) H') : H' l = some (.lst xs) := U.k l _ (B.apart n) upd_same
theorem Box.same {H H' : Hp} {b : Addr} (B : Box H b) (e : Same H H') : Box H' b := by
  obtain ⟨l, ds, k, h, hl, r⟩ := B
  exact ⟨l, ds, k, e _ _ h, e _ _ hl, r⟩
theorem same_new {H : Hp} {p : Addr} {o : HO} (n : H p = none) : Same H (upd H p o) := same_upd (Same.refl H) n
theorem Box.off {H : Hp} {b l : Addr} (B : Box H b) (e : H l = none) : l ≠ b := B.apart e
/-- a list that is not of the box is written -/
theorem Box.put {H0 H : Hp} {b l : Addr} {o : HO} (B0 : Box H0 b) (B : Box H b) (U : But b H0 H) (e : H0 l = none) : Box (upd H l o) b ∧ But b H0 (upd H l o) := by
  have lb := B0.off e
  obtain ⟨l0, d0, n0, hb0, hl0, _⟩ := B0
  obtain ⟨l1, d1, n1, hb1, hl1, ne1, r⟩ := B
  obtain ⟨n', h'⟩ := U.d l0 n0 hb0
  have el : l1 = l0 := by
    rw [hb1] at h'
    have e2 := Option.some.inj h'
    injection e2 with e3
    injection e3 with e4
    exact V.ref.inj e4
  subst el
  have ll : l ≠ l1 := fun z => by rw [z, hl0] at e; cases e
  have U' : But b H0 (upd H l o) := ⟨fun a u na q => by
    have al : a ≠ l := fun z => by rw [z, e] at q; cases q
    rw [upd_ne al]
    exact U.k a u na q, fun l' m q => by
    obtain ⟨m', q'⟩ := U.d l' m q
    exact ⟨m', by rw [upd_ne (Ne.symm lb)]; exact q'⟩⟩
  exact ⟨⟨l1, d1, n1, by rw [upd_ne (Ne.symm lb)]; exact hb1, by rw [upd_ne (Ne.symm ll)]; exact hl1, ne1, r⟩, U'⟩
end LB

set_option maxRecDepth 100000
set_option maxHeartbeats 4000000
namespace LB
open PySem PySem.Spec PyProof.Rows L2
/-! ### words and tests -/
theorem atI_0 {x : V} {xs : List V} : atI (x :: xs) 0 = some x := atI_nat (j := 0) (v := x) (xs := x :: xs) rfl
theorem iteE {x y : Str} {A B : Prop} (h : x = y) (a : A) : if decide (V.str x = V.str y) = true then A else B := by rw [if_pos (decide_eq_true (congrArg V.str h))]; exact a
theorem iteN {x y : Str} {A B : Prop} (h : x ≠ y) (b : B) : if decide (V.str x = V.str y) = true then A else B := by rw [if_neg (fun c => h (V.str.inj (of_decide_eq_true c)))]; exact b
theorem ite_int {x y : Int} {A B : Prop} (h1 : x = y → A) (h2 : x ≠ y → B) : if decide (V.int x = V.int y) = true then A else B :=
  ite2 (fun c => h1 (V.int.inj (of_decide_eq_true c))) (fun c => h2 fun e => c (decide_eq_true (congrArg V.int e)))
theorem inTwo {x a b : Str} (h : inV (V.str x) [V.str a, V.str b] = true) : a = x ∨ b = x := by
  have h : ((a == x) || ((b == x) || false)) = true := h
  rw [Bool.or_false, Bool.or_eq_true] at h
  exact h.imp (fun e => eq_of_beq e) fun e => eq_of_beq e
theorem inTwo_of {x a b : Str} (h : a = x ∨ b = x) : inV (V.str x) [V.str a, V.str b] = true := by
  show ((a == x) || ((b == x) || false)) = true
  rw [Bool.or_false, Bool.or_eq_true]
  exact h.imp (fun e => beq_iff_eq.mpr e) fun e => beq_iff_eq.mpr e
/-! ### data under what stays -/
theorem sqT_same {K : PySem.W.Frag} {H H' : Hp} {a : Addr} {xs : List V} (e : Same H H') (h : SqT K H a xs) : SqT K H' a xs := (Tp.same e).seq h
theorem sqL_same {K : PySem.W.Frag} {H H' : Hp} {a : Addr} {xs : List V} (e : Same H H') (h : SqL K H a xs) : SqL K H' a xs := by
  rcases h with (h | ⟨o, h⟩) | h
  · exact .inl (.inl (e _ _ h))
  · exact .inl (.inr ⟨o, e _ _ h⟩)
  · exact .inr h
mutual
theorem dp_same {K : PySem.W.Frag} {H H' : Hp} (e : Same H H') : ∀ {v : V} {d : PyData}, Dp K H v d → Dp K H' v d
  | _, _, .non => .non
  | _, _, .bl b => .bl b
  | _, _, .int i => .int i
  | _, _, .str x => .str x
  | _, _, .lst h r => .lst (sqL_same e h) (dpAll_same e r)
  | _, _, .tup h r => .tup (sqT_same e h) (dpAll_same e r)
theorem dpAll_same {K : PySem.W.Frag} {H H' : Hp} (e : Same H H') : ∀ {vs : List V} {ds : List PyData}, DpAll K H vs ds → DpAll K H' vs ds
  | _, _, .nil => .nil
  | _, _, .cons h r => .cons (dp_same e h) (dpAll_same e r)
end
theorem dpI {K : PySem.W.Frag} {H : Hp} : ∀ {ns : List Int}, DpAll K H (ns.map V.int) (ns.map PyData.int)
  | [] => .nil
  | n :: r => .cons (.int n) dpI
theorem map_at {ns : List Int} {j : Nat} {x : V} (h : (ns.map V.int)[j]? = some x) : ∃ q, ns[j]? = some q ∧ x = .int q := by
  rw [List.getElem?_map] at h
  obtain ⟨q, h1, h2⟩ := Option.map_eq_some_iff.mp h
  exact ⟨q, h1, h2.symm⟩
theorem free_new {H : Hp} {p p2 : Addr} {o : HO} (n : H p = none) (n2 : (upd H p o) p2 = none) : H p2 = none := by
  by_cases e : p2 = p
  · rw [e]; exact n
  · rw [upd_ne e] at n2
    exact n2
/-- two items, one told before -/
theorem dp_two {K : PySem.W.Frag} {H : Hp} {r : V} {d : PyData} {k : Int} {p : Addr} (n : H p = none) (h : Dp K H r d) : Dp K (upd H p (.tup [r, .int k])) (.ref p) (.tuple [d, .int k]) :=
  .tup (SqT.of upd_same) (.cons (dp_same (same_new n) h) (.cons (.int _) .nil))
/-! ### comprehensions: one more walk -/
theorem in_tup {K : PySem.W.Frag} {a : Addr} {ys : List V} {Nx : Hp → Prop} {R : V → Hp → (Hp → Prop) → Prop} {H4 : Hp} (Pv : Nat → Hp → Prop) (h0 : Pv 0 H4) (hl : ∀ j H, j ≤ ys.length → Pv j H → SqT K H a ys)
    (hs : ∀ j y H, ys[j]? = some y → Pv j H → R y H (Pv (j + 1))) (hd : ∀ H, Pv ys.length H → Nx H) :
    ∃ W1 : Nat → Nat → Hp → Prop, (∃ m, W1 0 m H4) ∧ ∀ j k H, W1 j k H → ((Itt K a).stop j H ∧ Nx H) ∨ ((Itt K a).go j H ∧ ∃ Nx1 : Hp → Prop, (∀ H', Nx1 H' → ∃ k', k' < k ∧ W1 (j + 1) k' H') ∧ ∀ x H', (Itt K a).yld j H x H' → R x H' Nx1) := by
  refine ⟨fun i m H => m = ys.length - i ∧ i ≤ ys.length ∧ Pv i H, ⟨ys.length, by simp, Nat.zero_le _, h0⟩, ?_⟩
  rintro i m H ⟨rfl, hi, p⟩
  have q := hl i H hi p
  by_cases hlt : i < ys.length
  · refine .inr ⟨⟨ys, ys[i], q, by simp [hlt]⟩, Pv (i + 1), fun H' p' => ⟨ys.length - (i + 1), by omega, rfl, hlt, p'⟩, fun x H' y => ?_⟩
    obtain ⟨e, y⟩ := y
    subst e
    exact hs i x _ (y ys q) p
  · have e : i = ys.length := by omega
    subst e
    exact .inl ⟨⟨ys, q, Nat.le_refl _⟩, hd H p⟩
theorem takeS {α : Type} {l : List α} {i : Nat} {x : α} (h : l[i]? = some x) : l.take (i + 1) = l.take i ++ [x] := by
  rw [List.take_add_one, h]
  rfl
theorem ix_listK {X : Cx} {K : PySem.W.Frag} (h : X.K = K) : IxR X (rIxL K) := by
  subst h
  exact ix_list
theorem ix_tupK {X : Cx} {K : PySem.W.Frag} (h : X.K = K) : IxR X (rIxT K) := by
  subst h
  exact ix_tup
def rTupOf (K : PySem.W.Frag) : List V → Hp → VK → Prop := fun xs H Q => ∃ p ys, xs = [V.ref p] ∧ ((SqL K H p ys ∧ ∀ l, H l = none → Q (.ref l) (upd H l (.tup ys))) ∨ SqT K H p ys ∧ Q (.ref p) H)
theorem call_tupleK {X : Cx} {K : PySem.W.Frag} (h : X.K = K) : CallR X (.type "tuple") (rTupOf K) := by
  subst h
  exact call_tuple_of
theorem pi_tupK {X : Cx} {tg : Expr} {K : PySem.W.Frag} (h : X.K = K) {l : Expr} {tl : TE} (hl : PE X l tl) : PI X tg l (iTup K tl) := by
  subst h
  exact pi_tup hl
end LB

set_option maxRecDepth 100000
set_option maxHeartbeats 8000000
namespace LB
open PySem PySem.Spec PyProof.Rows L2 TL
/-! ### signs, blocks, pieces -/
structure NamesW (mg : Str → Option Value) : Prop extends Names mg where
  all : mg "all" = none
  ord : mg "ord" = none
  list : mg "list" = none
  max : mg "max" = none
def charL : List Nat := 10 :: (List.range' 32 95).filter (· ≠ 37)
def isSg (i : Int) : Bool := decide (i = 10) || (decide (32 ≤ i) && decide (i ≤ 126) && !decide (i = 37))
theorem charL_iff (i : Int) : (0 ≤ i ∧ i.toNat ∈ charL) ↔ isSg i = true := by
  unfold charL isSg
  simp only [List.mem_cons, List.mem_filter, List.mem_range', Bool.or_eq_true, Bool.and_eq_true, decide_eq_true_eq, Bool.not_eq_true', decide_eq_false_iff_not]
  constructor
  · rintro ⟨h0, h | ⟨⟨k, h1, h2⟩, h3⟩⟩
    · exact .inl (by omega)
    · have : i.toNat ≠ 37 := by simpa using h3
      exact .inr ⟨⟨by omega, by omega⟩, by omega⟩
  · rintro (h | ⟨⟨h1, h2⟩, h3⟩)
    · exact ⟨by omega, .inl (by omega)⟩
    · exact ⟨by omega, .inr ⟨⟨i.toNat - 32, by omega, by omega⟩, by simpa using (show i.toNat ≠ 37 by omega)⟩⟩
theorem char_val (i : Int) : valV (signD charL) (.inl i) = if isSg i = true then some (.str (ofL [i.toNat])) else none := by
  rw [sign_get]
  by_cases h : isSg i = true
  · rw [if_pos ((charL_iff i).mpr h), if_pos h]
  · rw [if_neg (fun z => h ((charL_iff i).mp z)), if_neg h]
/-- a block has 32 bytes -/
def Blk (b : List Int) : Prop := b.length = 32 ∧ ∀ x ∈ b, 0 ≤ x ∧ x ≤ 255
abbrev gI (b : List Int) (i : Nat) : Int := b.getD i 0
def marksOf (b : List Int) (m : Int) : Bool := decide (gI b 0 = m) && decide (gI b 31 = m)
def zerosOf (b : List Int) : Bool := b.all fun x => decide (x = 0)
def codesOf (b : List Int) : List Int := cutA b (some 6) (some (6 + gI b 5))
def restOf (b : List Int) : List Int := cutA b (some (6 + gI b 5)) (some 31)
def txtOf (cs : List Int) : Str := ofL (cs.map Int.toNat)
def isPiece (b : List Int) : Bool := marksOf b 74 && !decide (gI b 1 ≥ gI b 2) && !decide (gI b 5 > 24) && (codesOf b).all isSg && zerosOf (restOf b)
def pieceD (b : List Int) : PyData := if isPiece b = true then .tuple [.int (gI b 1), .int (gI b 2), .int (256 * gI b 3 + gI b 4), .str (txtOf (codesOf b))] else .none
def isHead (b : List Int) : Bool := marksOf b 72 && zerosOf (cutA b (some 3) (some 31)) && !decide (256 * gI b 1 + gI b 2 > 1000)
def headD (b : List Int) : PyData := if isHead b = true then .int (256 * gI b 1 + gI b 2) else .none
theorem blk_get {b : List Int} (h : Blk b) (i : Nat) : 0 ≤ gI b i ∧ gI b i ≤ 255 := by
  unfold gI
  by_cases hi : i < b.length
  · rw [List.getD_eq_getElem?_getD, List.getElem?_eq_getElem hi]
    exact h.2 _ (List.getElem_mem hi)
  · rw [List.getD_eq_getElem?_getD, List.getElem?_eq_none (by omega)]
    decide
theorem atI_blk {b : List Int} (h : Blk b) {i : Nat} (hi : i < 32) : atI (b.map V.int) (i : Int) = some (.int (gI b i)) := atI_get (by rw [h.1]; exact hi)
theorem atI_blkL {b : List Int} (h : Blk b) : atI (b.map V.int) (-1) = some (.int (gI b 31)) := by
  have e : atI (b.map V.int) (31 : Int) = some (.int (gI b 31)) := atI_blk h (i := 31) (by decide)
  rw [← e]
  unfold atI
  have hl : (b.map V.int).length = 32 := by rw [List.length_map]; exact h.1
  rw [hl]
  rfl
theorem same_none {H H' : Hp} {p : Addr} (S : Same H H') (n : H' p = none) : H p = none := by
  cases e : H p with
  | none => rfl
  | some o => rw [S p o e] at n; cases n
theorem bn {b : Bool} (h : (!b) = true) : b = false := by
  cases b
  · rfl
  · cases h
theorem bp {b : Bool} (h : ¬ (!b) = true) : b = true := by
  cases b
  · exact absurd rfl h
  · rfl
theorem dec_int (x y : Int) : decide (V.int x = V.int y) = decide (x = y) := by
  by_cases h : x = y
  · rw [h, decide_eq_true rfl, decide_eq_true rfl]
  · rw [decide_eq_false h, decide_eq_false fun e => h (V.int.inj e)]
theorem signD_snoc (l : List Nat) (c : Nat) : signD (l ++ [c]) = putK (signD l) (.inl (c : Int)) (.str (ofL [c])) := by
  unfold signD
  rw [List.foldl_append]
  rfl
theorem signD_short (l : List Nat) : (signD l).length ≤ l.length := by
  have := signD_len l []
  simpa [signD] using this
theorem char_some (i : Int) : (valV (signD charL) (.inl i)).isSome = isSg i := by
  rw [char_val]
  cases isSg i <;> rfl
theorem all_map {α : Type} (f : α → Bool) (l : List α) : (l.map f).all id = l.all f := by
  rw [List.all_map]
  rfl
section
variable {P : Program} {w : World} {K : PySem.W.Frag} {mg : Str → Option Value} {base : Heap}
def spMarks (K : PySem.W.Frag) : Sp := fun vs H Q _ => ∃ (a : Addr) (b : List Int) (m : Int), vs = [.ref a, .int m] ∧ SqL K H a (b.map V.int) ∧ Blk b ∧ Q (.bl (marksOf b m)) H
theorem scMk : FnScope ["block", "mark"] ["block", "mark"] (defScope sMarks) := ⟨rfl, rfl, rfl, by decide +kernel, rfl, by decide +kernel, by decide +kernel⟩
theorem ok_marks {f : Addr} {fd : FuncData} (F : Fun K "has_marks" "has_marks" sMarks f fd) : FnOk P w K mg base CX0 1 f fd ["block", "mark"] (spMarks K) := by
  refine F.ok scMk (fun vs H Q E h => ?_) (fun cdv A outer s H vs Q E hr h => ?_)
  · obtain ⟨a, b, m, rfl, _⟩ := h
    rfl
  · obtain ⟨a, b, m, rfl, ha, hb, q⟩ := h
    refine ⟨_, (pss_one (ps_ret (pe_and (pe_cmpR op_eq (pe_ix ix_list (pv 0) pe_int (fun _ _ => rfl)) (pv 1) (nomark _)) (pe_one (pe_cmpR op_eq (pe_ix ix_list (pv 0) (pe_un un_neg pe_int) (fun _ _ => rfl)) (pv 1) (nomark _)))))), ?_⟩
    refine ⟨_, rfl, a, _, _, _, rfl, rfl, ha, atI_blk hb (i := 0) (by decide), ?_⟩
    unfold marksOf at q
    refine ⟨_, rfl, rfl, _, rfl, ite2 (fun c => ?_) (fun c => ?_)⟩
    · rw [dec_int] at c
      rw [c, Bool.true_and, ← dec_int] at q
      exact ⟨_, rfl, _, rfl, a, _, _, _, rfl, rfl, ha, atI_blkL hb, _, rfl, rfl, q⟩
    · rw [dec_int] at c
      rw [Bool.eq_false_iff.mpr c, Bool.false_and] at q
      exact q
def spZeros (K : PySem.W.Frag) : Sp := fun vs H Q _ => ∃ (a : Addr) (b : List Int), vs = [.ref a] ∧ SqL K H a (b.map V.int) ∧ b.length ≤ 100 ∧ ∀ H', Same H H' → Q (.bl (zerosOf b)) H'
theorem scZr : FnScope ["numbers", "number"] ["numbers"] (defScope sZeros) := ⟨rfl, rfl, rfl, by decide +kernel, rfl, by decide +kernel, by decide +kernel⟩
theorem ok_zeros {f : Addr} {fd : FuncData} (F : Fun K "are_zeros" "are_zeros" sZeros f fd) (M : NamesW mg) : FnOk P w K mg base CX0 1 f fd ["numbers"] (spZeros K) := by
  refine F.ok scZr (fun vs H Q E h => ?_) (fun cdv A outer s H vs Q E hr h => ?_)
  · obtain ⟨a, b, rfl, _⟩ := h
    rfl
  · obtain ⟨a, b, rfl, ha, hb, q⟩ := h
    have nd := scZr.nd
    refine ⟨_, (pss_one (ps_ret (pe_callB (cr_all rfl) (by rfl) M.all (by decide +kernel) (pa_cons (pe_lc (own := [("number", 1)]) (g := (gName 1)) rfl nd (pi_list (pv 0)) (blkOk_by (N := ["numbers", "number"]) (sc := (defScope sZeros)) (by decide +kernel)) (fun _ _ _ _ _ => (pg_name (i := 1) nd rfl (Or.inl rfl))) (fun _ _ _ _ _ => pts_nil) (fun _ _ _ _ _ => (pe_cmpR op_eq (pv 1) pe_int (nomark _)))) pa_nil)))), ?_⟩
    refine ⟨_, rfl, a, rfl, ⟨_, ha⟩, fun D nD => ?_⟩
    refine lc_list (K := K) (xs := b.map V.int) (fun j H' => Same H H' ∧ H' D = some (.lst ((b.take j).map fun x => V.bl (decide (x = 0))))) ⟨same_new nD, upd_same⟩ (fun j H' _ h => sqL_same h.1 ha) ?_ ?_
    · rintro j x H1 hx ⟨S1, hD⟩
      obtain ⟨n, hn, rfl⟩ := map_at hx
      refine ⟨rfl, _, rfl, rfl, _, hD, ?_, same_upd S1 nD, ?_⟩
      · rw [List.length_map, List.length_take]
        exact small_line (by omega)
      · rw [takeS hn, List.map_append, dec_int]
        exact upd_same
    · rintro H1 ⟨S1, hD⟩
      rw [List.length_map, List.take_length] at hD
      refine ⟨D, b.map fun x => decide (x = 0), rfl, SqL.of (by rw [hD, List.map_map]; rfl), ?_⟩
      have e : (b.map fun x => decide (x = 0)).all id = zerosOf b := by
        unfold zerosOf
        rw [List.all_map]
        rfl
      rw [e]
      exact q H1 S1
end
end LB

set_option maxRecDepth 100000
set_option maxHeartbeats 8000000
namespace LB
open PySem PySem.Spec PyProof.Rows L2 TL
/-- the top's numbers and signs -/
structure TopW (mg : Str → Option Value) : Prop where
  at6 : ∃ t, mg "TEXT_AT" = some (.int 6 t)
  pc : ∃ t, mg "PIECE" = some (.int 24 t)
  pm : ∃ t, mg "PIECE_MARK" = some (.int 74 t)
  hm : ∃ t, mg "HEAD_MARK" = some (.int 72 t)
  gr : ∃ t, mg "GRACE_MOST" = some (.int 1000 t)
  ch : ∃ z t, mg "CHARACTERS" = some (.str z t) ∧ tl z = charL
section
variable {P : Program} {w : World} {K : PySem.W.Frag} {mg : Str → Option Value} {base : Heap}
def spDecH (K : PySem.W.Frag) : Sp := fun vs H Q _ => ∃ (a : Addr) (b : List Int), vs = [.ref a] ∧ SqL K H a (b.map V.int) ∧ Blk b ∧ ∀ v H', Same H H' → Dp K H' v (headD b) → Q v H'
theorem scDh : FnScope ["block", "grace"] ["block"] (defScope sDecH) := ⟨rfl, rfl, rfl, by decide +kernel, rfl, by decide +kernel, by decide +kernel⟩
theorem ok_decH {f fM fZ : Addr} {fd fdM fdZ : FuncData} (F : Fun K "decode_head" "decode_head" sDecH f fd) (M : NamesW mg) (T : TopW mg) (FM : Fun K "has_marks" "has_marks" sMarks fM fdM) (mM : mg "has_marks" = some (.ref fM)) (bM : Binds K fdM ["block", "mark"] [])
    (FZ : Fun K "are_zeros" "are_zeros" sZeros fZ fdZ) (mZ : mg "are_zeros" = some (.ref fZ)) (bZ : Binds K fdZ ["numbers"] []) :
    FnOk P w K mg base CX0 2 f fd ["block"] (spDecH K) := by
  have GM : FnOk P w K mg base CX0 1 fM fdM ["block", "mark"] (spMarks K) := ok_marks FM
  have GZ : FnOk P w K mg base CX0 1 fZ fdZ ["numbers"] (spZeros K) := ok_zeros FZ M
  have kM := FM.kp
  have kZ := FZ.kp
  obtain ⟨t1, hm⟩ := T.hm
  obtain ⟨t2, gr⟩ := T.gr
  refine F.ok scDh (fun vs H Q E h => ?_) (fun cdv A outer s H vs Q E hr h => ?_)
  · obtain ⟨a, b, rfl, _⟩ := h
    rfl
  · obtain ⟨a, b, rfl, ha, hb, q⟩ := h
    have nd := scDh.nd
    refine ⟨_, (pss_cons (ps_set (i := 1) nd rfl (Or.inl rfl) (pe_op op_add (pe_op op_mul pe_int (pe_ix ix_list (pv 0) pe_int (fun _ _ => rfl))) (pe_ix ix_list (pv 0) pe_int (fun _ _ => rfl))))
        (pss_cons (ps_if (PW.pt (pw_or (pt_not (pt_val (pe_call GM (hr.mono (by decide)) rfl mM kM bM .nil pass0 (pa_cons (pv 0) (pa_cons (pe_glob (v := .int 72) rfl hm ⟨_, rfl⟩) pa_nil))))) (pw_or (pt_not (pt_val (pe_call GZ (hr.mono (by decide)) rfl mZ kZ bZ .nil pass0 (pa_cons (pe_slice sl_list (pv 0) (po_some pe_int) (po_some (pe_un un_neg pe_int))) pa_nil)))) (pw_or1 (pt_cmpR op_gt (pv 1) (pe_glob (v := .int 1000) rfl gr ⟨_, rfl⟩) (nomark _)))))) (pss_one (ps_ret pe_non)) pss_nil)
        (pss_one (ps_ret (pv 1))))), ?_⟩
    refine ⟨_, rfl, a, _, _, _, rfl, rfl, ha, atI_blk hb (i := 1) (by decide), _, _, rfl, rfl, .inl ⟨by decide, by decide⟩, _, rfl, a, _, _, _, rfl, rfl, ha, atI_blk hb (i := 2) (by decide), _, _, rfl, rfl, ?_⟩
    have no : ∀ H', Same H H' → isHead b = false → Q .non H' := fun H' S e => q _ H' S (by unfold headD; rw [if_neg (by rw [e]; decide)]; exact .non)
    have yes : ∀ H', Same H H' → isHead b = true → Q (.int (256 * gI b 1 + gI b 2)) H' := fun H' S e => q _ H' S (by unfold headD; rw [if_pos e]; exact .int _)
    clear q
    refine ⟨_, rfl, a, b, 72, rfl, ha, hb, _, rfl, ite2 (fun c => ?_) (fun c => ?_)⟩
    · exact no H (Same.refl H) (by unfold isHead; rw [bn c]; rfl)
    have c : marksOf b 72 = true := bp c
    refine ⟨_, rfl, _, rfl, _, rfl, _, rfl, a, _, rfl, ha, fun p np => ?_⟩
    rw [cutI, cutA_last b (some 3) 31 hb.1]
    refine ⟨p, cutA b (some 3) (some (31 : Nat)), rfl, SqL.of upd_same, ?_, fun H1 S1 => ⟨_, rfl, ite2 (fun c2 => ?_) (fun c2 => ?_)⟩⟩
    · have := cutA_len b (some 3) (some ((31 : Nat) : Int))
      have := hb.1
      omega
    · exact no H1 ((same_new np).trans S1) (by
        unfold isHead
        rw [show zerosOf (cutA b (some 3) (some 31)) = false from bn c2, c]
        rfl)
    have c2 : zerosOf (cutA b (some 3) (some 31)) = true := bp c2
    refine ⟨_, rfl, _, _, rfl, rfl, _, rfl, ite2 (fun c3 => ?_) (fun c3 => ?_)⟩
    · refine no H1 ((same_new np).trans S1) ?_
      have c3 := of_decide_eq_true c3
      unfold isHead
      rw [show decide (256 * gI b 1 + gI b 2 > 1000) = true from decide_eq_true c3]
      exact Bool.and_false _
    · refine ⟨_, rfl, yes H1 ((same_new np).trans S1) ?_⟩
      have c3 : ¬ (256 * gI b 1 + gI b 2 > 1000) := fun z => c3 (decide_eq_true z)
      unfold isHead
      rw [c, c2, decide_eq_false c3]
      rfl
def spDecP (K : PySem.W.Frag) : Sp := fun vs H Q _ => ∃ (a : Addr) (b : List Int), vs = [.ref a] ∧ SqL K H a (b.map V.int) ∧ Blk b ∧ ∀ v H', Same H H' → Dp K H' v (pieceD b) → Q v H'
theorem scDp : FnScope ["block", "_", "index", "many", "high", "low", "length", "known", "end", "codes", "char", "code"] ["block"] (defScope sDecP) := ⟨rfl, rfl, rfl, by decide +kernel, rfl, by decide +kernel, by decide +kernel⟩
theorem ok_decP {f fM fZ : Addr} {fd fdM fdZ : FuncData} (F : Fun K "decode_piece" "decode_piece" sDecP f fd) (M : NamesW mg) (T : TopW mg) (FM : Fun K "has_marks" "has_marks" sMarks fM fdM) (mM : mg "has_marks" = some (.ref fM)) (bM : Binds K fdM ["block", "mark"] [])
    (FZ : Fun K "are_zeros" "are_zeros" sZeros fZ fdZ) (mZ : mg "are_zeros" = some (.ref fZ)) (bZ : Binds K fdZ ["numbers"] []) :
    FnOk P w K mg base CX0 2 f fd ["block"] (spDecP K) := by
  have GM : FnOk P w K mg base CX0 1 fM fdM ["block", "mark"] (spMarks K) := ok_marks FM
  have GZ : FnOk P w K mg base CX0 1 fZ fdZ ["numbers"] (spZeros K) := ok_zeros FZ M
  have kM := FM.kp
  have kZ := FZ.kp
  obtain ⟨t1, at6⟩ := T.at6
  obtain ⟨t2, pc⟩ := T.pc
  obtain ⟨t3, pm⟩ := T.pm
  obtain ⟨z, t4, ch, hz⟩ := T.ch
  refine F.ok scDp (fun vs H Q E h => ?_) (fun cdv A outer s H vs Q E hr h => ?_)
  · obtain ⟨a, b, rfl, _⟩ := h
    rfl
  · obtain ⟨a, b, rfl, ha, hb, q⟩ := h
    have nd := scDp.nd
    refine ⟨_, (pss_cons (ps_asg (pe_slice sl_list (pv 0) po_none (po_some (pe_glob (v := .int 6) rfl at6 ⟨_, rfl⟩))) (pg_unl (by rfl) (pgs_cons (pg_name (i := 1) nd rfl (Or.inl rfl)) (pgs_cons (pg_name (i := 2) nd rfl (Or.inl rfl)) (pgs_cons (pg_name (i := 3) nd rfl (Or.inl rfl)) (pgs_cons (pg_name (i := 4) nd rfl (Or.inl rfl)) (pgs_cons (pg_name (i := 5) nd rfl (Or.inl rfl)) (pgs_cons (pg_name (i := 6) nd rfl (Or.inl rfl)) pgs_nil))))))))
        (pss_cons (ps_if (PW.pt (pw_or (pt_not (pt_val (pe_call GM (hr.mono (by decide)) rfl mM kM bM .nil pass0 (pa_cons (pv 0) (pa_cons (pe_glob (v := .int 74) rfl pm ⟨_, rfl⟩) pa_nil))))) (pw_or (pt_cmpR op_ge (pv 2) (pv 3) (nomark _)) (pw_or1 (pt_cmpR op_gt (pv 6) (pe_glob (v := .int 24) rfl pc ⟨_, rfl⟩) (nomark _)))))) (pss_one (ps_ret pe_non)) pss_nil)
        (pss_cons (ps_set (i := 7) nd rfl (Or.inr rfl) (pe_dc (own := [("char", 10)]) (g := (gName 10)) rfl nd (pi_str (pe_glob (v := .str z) rfl ch ⟨_, rfl⟩)) (blkOk_by (N := ["block", "_", "index", "many", "high", "low", "length", "known", "end", "codes", "char", "code"]) (sc := (defScope sDecP)) (by decide +kernel)) (fun _ _ _ _ _ => (pg_name (i := 10) nd rfl (Or.inl rfl))) (fun _ _ _ _ _ => pts_nil) (fun _ _ _ _ _ => (pe_callB call_ord (by rfl) M.ord (by decide +kernel) (pa_cons (pv 10) pa_nil))) (fun _ _ _ _ _ => (pv 10))))
        (pss_cons (ps_set (i := 8) nd rfl (Or.inl rfl) (pe_op op_add (pe_glob (v := .int 6) rfl at6 ⟨_, rfl⟩) (pv 6)))
        (pss_cons (ps_set (i := 9) nd rfl (Or.inl rfl) (pe_slice sl_list (pv 0) (po_some (pe_glob (v := .int 6) rfl at6 ⟨_, rfl⟩)) (po_some (pv 8))))
        (pss_cons (ps_if (PW.pt (pw_or (pt_not (pt_val (pe_callB (cr_all rfl) (by rfl) M.all (by decide +kernel) (pa_cons (pe_lc (own := [("code", 11)]) (g := (gName 11)) rfl nd (pi_list (pv 9)) (blkOk_by (N := ["block", "_", "index", "many", "high", "low", "length", "known", "end", "codes", "char", "code"]) (sc := (defScope sDecP)) (by decide +kernel)) (fun _ _ _ _ _ => (pg_name (i := 11) nd rfl (Or.inl rfl))) (fun _ _ _ _ _ => pts_nil) (fun _ _ _ _ _ => (pe_cmp (pc_din (hu_of hr) (pv 11) (pv 7))))) pa_nil)))) (pw_or1 (pt_not (pt_val (pe_call GZ (hr.mono (by decide)) rfl mZ kZ bZ .nil pass0 (pa_cons (pe_slice sl_list (pv 0) (po_some (pv 8)) (po_some (pe_un un_neg pe_int))) pa_nil))))))) (pss_one (ps_ret pe_non)) pss_nil)
        (pss_one (ps_ret (pe_tup (pa_cons (pv 2) (pa_cons (pv 3) (pa_cons (pe_op op_add (pe_op op_mul pe_int (pv 4)) (pv 5)) (pa_cons (pe_join pe_str (pe_lc (own := [("code", 11)]) (g := (gName 11)) rfl nd (pi_list (pv 9)) (blkOk_by (N := ["block", "_", "index", "many", "high", "low", "length", "known", "end", "codes", "char", "code"]) (sc := (defScope sDecP)) (by decide +kernel)) (fun _ _ _ _ _ => (pg_name (i := 11) nd rfl (Or.inl rfl))) (fun _ _ _ _ _ => pts_nil) (fun _ _ _ _ _ => (pe_dget (hu_of hr) (pv 7) (pv 11) (fun _ _ => rfl))))) pa_nil))))))))))))), ?_⟩
    have take6 : cutA b none (some 6) = [gI b 0, gI b 1, gI b 2, gI b 3, gI b 4, gI b 5] := by
      rw [show (6 : Int) = ((6 : Nat) : Int) from rfl, cutA_head b 6 (by rw [hb.1]; decide)]
      have hl := hb.1
      match b, hl with
      | _ :: _ :: _ :: _ :: _ :: _ :: _, _ => rfl
    have no : ∀ H', Same H H' → isPiece b = false → Q .non H' := fun H' S e => q _ H' S (by unfold pieceD; rw [if_neg (by rw [e]; decide)]; exact .non)
    refine ⟨_, rfl, _, rfl, a, _, rfl, ha, fun p np => ?_⟩
    rw [cutI, take6]
    refine ⟨p, _, rfl, SqL.of upd_same, rfl, _, _, rfl, _, _, rfl, _, _, rfl, _, _, rfl, _, _, rfl, _, _, rfl, rfl, ?_⟩
    have S1 := same_new (o := .lst ([gI b 0, gI b 1, gI b 2, gI b 3, gI b 4, gI b 5].map V.int)) np
    generalize upd H p (.lst ([gI b 0, gI b 1, gI b 2, gI b 3, gI b 4, gI b 5].map V.int)) = H1 at S1
    refine ⟨_, rfl, a, b, 74, rfl, sqL_same S1 ha, hb, _, rfl, ite2 (fun c => ?_) (fun c => ?_)⟩
    · exact no H1 S1 (by unfold isPiece; rw [bn c]; rfl)
    have c := bp c
    refine ⟨_, rfl, _, rfl, _, _, rfl, rfl, _, rfl, ite2 (fun c1 => ?_) (fun c1 => ?_)⟩
    · refine no H1 S1 ?_
      unfold isPiece
      rw [c, c1]
      rfl
    refine ⟨_, rfl, _, _, rfl, rfl, _, rfl, ite2 (fun c2 => ?_) (fun c2 => ?_)⟩
    · refine no H1 S1 ?_
      unfold isPiece
      rw [show decide (gI b 5 > 24) = true from c2]
      simp
    have zl : z.cps.size = charL.length := by rw [← hz]; exact (Array.length_toList).symm
    refine ⟨z, rfl, fun D nD => ?_⟩
    refine dc_it walk_str (fun i H' => Same H1 H' ∧ H' D = some (.dK (signD (charL.take i)))) ⟨same_new nD, upd_same⟩ (fun _ _ _ _ => trivial) ?_ ?_
    · rintro i x H2 H3 hi ⟨S2, hD⟩ ⟨rfl, ch0, hc, rfl⟩
      have hc2 : charL[i]? = some ch0 := by
        rw [← hz]
        exact (Array.getElem?_toList).trans hc
      refine ⟨rfl, _, rfl, _, rfl, rfl, _, rfl, signD (charL.take i), .inl (ch0 : Int), rfl, hD, ?_, same_upd S2 nD, ?_⟩
      · have := signD_short (charL.take i)
        rw [List.length_take] at this
        have e : charL.length = 95 := by decide +kernel
        exact small_line (by omega)
      · rw [takeS hc2, signD_snoc]
        exact upd_same
    rintro H2 ⟨S2, hD⟩
    rw [zl, List.take_length] at hD
    have S2 := S1.trans S2
    refine ⟨_, rfl, _, _, rfl, rfl, _, rfl, _, rfl, _, rfl, _, rfl, a, _, rfl, sqL_same S2 ha, fun p2 np2 => ?_⟩
    rw [cutI, show cutA b (some 6) (some (6 + gI b 5)) = codesOf b from rfl]
    have S3 := S2.trans (same_new (o := .lst ((codesOf b).map V.int)) np2)
    have hp2 : upd H2 p2 (.lst ((codesOf b).map V.int)) p2 = some (.lst ((codesOf b).map V.int)) := upd_same
    have hD3 := same_new (o := .lst ((codesOf b).map V.int)) np2 _ _ hD
    have clen : (codesOf b).length ≤ 32 := by
      have := cutA_len b (some 6) (some (6 + gI b 5))
      rw [hb.1] at this
      exact this
    generalize upd H2 p2 (.lst ((codesOf b).map V.int)) = H3 at *
    refine ⟨_, rfl, p2, rfl, ⟨_, SqL.of hp2⟩, fun D2 nD2 => ?_⟩
    refine lc_list (K := K) (xs := (codesOf b).map V.int) (fun j H' => Same H3 H' ∧ H' D2 = some (.lst (((codesOf b).take j).map fun x => V.bl (isSg x)))) ⟨same_new nD2, upd_same⟩ (fun j H' _ h => SqL.of (h.1 _ _ hp2)) ?_ ?_
    · rintro j x H4 hx ⟨S4, hD2⟩
      obtain ⟨n, hn, rfl⟩ := map_at hx
      refine ⟨rfl, _, rfl, _, rfl, D, _, rfl, DGet.k (k := Sum.inl n) (S4 _ _ hD3), _, hD2, ?_, same_upd S4 nD2, ?_⟩
      · rw [List.length_map, List.length_take]
        exact small_line (by omega)
      · rw [takeS hn, List.map_append, char_some]
        exact upd_same
    rintro H4 ⟨S4, hD2⟩
    rw [List.length_map, List.take_length] at hD2
    have S34 := S4
    have S4 := S3.trans S4
    have eb : ((codesOf b).map fun x => V.bl (isSg x)) = ((codesOf b).map isSg).map V.bl := by rw [List.map_map]; rfl
    rw [eb] at hD2
    refine ⟨D2, _, rfl, SqL.of hD2, ?_⟩
    rw [all_map]
    refine ⟨_, rfl, ite2 (fun c3 => ?_) (fun c3 => ?_)⟩
    · refine no H4 S4 ?_
      unfold isPiece
      rw [bn c3]
      simp
    have c3 := bp c3
    refine ⟨_, rfl, _, rfl, _, rfl, _, rfl, _, rfl, a, _, rfl, sqL_same S4 ha, fun p3 np3 => ?_⟩
    rw [cutI, cutA_last b _ 31 hb.1, show cutA b (some (6 + gI b 5)) (some ((31 : Nat) : Int)) = restOf b from rfl]
    refine ⟨p3, restOf b, rfl, SqL.of upd_same, ?_, fun H5 S5 => ⟨_, rfl, ite2 (fun c4 => ?_) (fun c4 => ?_)⟩⟩
    · have := cutA_len b (some (6 + gI b 5)) (some 31)
      have := hb.1
      unfold restOf
      omega
    · refine no H5 ((S4.trans (same_new np3)).trans S5) ?_
      unfold isPiece
      rw [bn c4]
      simp
    have c4 := bp c4
    have S35 := (S4.trans (same_new np3)).trans S5
    have hpc : isPiece b = true := by
      have k1 : decide (gI b 1 ≥ gI b 2) = false := Bool.eq_false_iff.mpr c1
      have k2 : decide (gI b 5 > 24) = false := Bool.eq_false_iff.mpr c2
      unfold isPiece
      rw [c, c3, c4, k1, k2]
      rfl
    have S5' := (S34.trans (same_new np3)).trans S5
    have sgs : ∀ x ∈ codesOf b, isSg x = true := fun x hx => List.all_eq_true.mp c3 x hx
    have val : ∀ x ∈ codesOf b, valV (signD charL) (.inl x) = some (.str (ofL [x.toNat])) := fun x hx => by rw [char_val, if_pos (sgs x hx)]
    refine ⟨_, rfl, _, rfl, _, rfl, _, _, rfl, rfl, .inl ⟨by decide, by decide⟩, _, rfl, _, _, rfl, rfl, ⟨_, rfl⟩, _, rfl, p2, rfl, ⟨_, SqL.of (S5' _ _ hp2)⟩, fun D3 nD3 => ?_⟩
    refine lc_list (K := K) (xs := (codesOf b).map V.int) (fun j H' => Same H5 H' ∧ H' D3 = some (.lst (((codesOf b).take j).map fun x => V.str (ofL [x.toNat])))) ⟨same_new nD3, upd_same⟩ (fun j H' _ h => SqL.of (h.1 _ _ (S5' _ _ hp2))) ?_ ?_
    · rintro j x H6 hx ⟨S6, hD6⟩
      obtain ⟨n, hn, rfl⟩ := map_at hx
      refine ⟨rfl, _, rfl, _, rfl, D, .str (ofL [n.toNat]), rfl, ?_, _, hD6, ?_, same_upd S6 nD3, ?_⟩
      · have g := DGet.k (k := Sum.inl n) (S6 _ _ (S5' _ _ hD3))
        rw [val n (List.mem_of_getElem? hn)] at g
        exact g
      · rw [List.length_map, List.length_take]
        exact small_line (by omega)
      · rw [takeS hn, List.map_append]
        exact upd_same
    rintro H6 ⟨S6, hD6⟩
    rw [List.length_map, List.take_length] at hD6
    have ej : ((codesOf b).map fun x => V.str (ofL [x.toNat])) = (((codesOf b).map Int.toNat).map fun c => ofL [c]).map V.str := by
      rw [List.map_map, List.map_map]
      rfl
    rw [ej] at hD6
    refine ⟨_, D3, _, rfl, rfl, .inl (SqL.of hD6), ?_, ?_⟩
    · refine ones_room ?_
      rw [List.length_map]
      omega
    rw [join_ofL]
    refine ⟨(by show 4 ≤ sizeLine; decide), fun u nu => ?_⟩
    have S7 := same_new (o := .tup [.int (gI b 1), .int (gI b 2), .int (256 * gI b 3 + gI b 4), .str (txtOf (codesOf b))]) nu
    refine q _ _ ((S35.trans S6).trans S7) ?_
    unfold pieceD
    rw [if_pos hpc]
    exact .tup (SqT.of upd_same) (.cons (.int _) (.cons (.int _) (.cons (.int _) (.cons (.str _) .nil))))
end
end LB

set_option maxRecDepth 100000
set_option maxHeartbeats 8000000
namespace LB
open PySem PySem.Spec PyProof.Rows L2 TL
/-! ### the law's pieces and texts -/
/-- codes of a text -/
def Sgs (cs : List Nat) : Prop := ∀ c ∈ cs, isSg (c : Int) = true
def partOf (cs : List Nat) (k : Nat) : List Nat := (cs.drop (24 * k)).take 24
def manyOf (cs : List Nat) : Nat := max 1 ((cs.length + 23) / 24)
def rowOf (n : Int) (cs : List Nat) (k : Nat) : List Int :=
  [74, (k : Int), (manyOf cs : Int), n / 256, n % 256, ((partOf cs k).length : Int)] ++ (partOf cs k).map (fun (c : Nat) => (c : Int)) ++ List.replicate (25 - (partOf cs k).length) 0 ++ [74]
theorem part_len (cs : List Nat) (k : Nat) : (partOf cs k).length ≤ 24 := by
  unfold partOf
  rw [List.length_take]
  omega
theorem row_len (n : Int) (cs : List Nat) (k : Nat) : (rowOf n cs k).length = 32 := by
  have h := part_len cs k
  unfold rowOf
  simp only [List.length_append, List.length_map, List.length_replicate, List.length_cons, List.length_nil]
  omega
theorem sg_byte {c : Nat} (h : isSg (c : Int) = true) : (c : Int) ≤ 126 := by
  unfold isSg at h
  simp only [Bool.or_eq_true, Bool.and_eq_true, decide_eq_true_eq] at h
  omega
theorem part_sg {cs : List Nat} (h : Sgs cs) (k : Nat) : Sgs (partOf cs k) := fun c hc => h c (List.mem_of_mem_drop (List.mem_of_mem_take hc))
theorem row_blk {n : Int} {cs : List Nat} {k : Nat} (hn : 0 ≤ n ∧ n < 65536) (hs : Sgs cs) (hm : manyOf cs ≤ 255) (hk : k < manyOf cs) : Blk (rowOf n cs k) := by
  refine ⟨row_len n cs k, fun x hx => ?_⟩
  have h := part_len cs k
  unfold rowOf at hx
  simp only [List.mem_append, List.mem_cons, List.mem_map, List.mem_replicate, List.not_mem_nil, or_false] at hx
  rcases hx with ((((e | e | e | e | e | e) | ⟨c, hc, e⟩) | ⟨_, e⟩) | e)
  · omega
  · omega
  · omega
  · omega
  · omega
  · omega
  · have := sg_byte (part_sg hs k c hc)
    omega
  · omega
  · omega
theorem row_get {n : Int} {cs : List Nat} {k : Nat} : gI (rowOf n cs k) 0 = 74 ∧ gI (rowOf n cs k) 1 = k ∧ gI (rowOf n cs k) 2 = manyOf cs ∧ gI (rowOf n cs k) 3 = n / 256 ∧ gI (rowOf n cs k) 4 = n % 256 ∧ gI (rowOf n cs k) 5 = (partOf cs k).length ∧ gI (rowOf n cs k) 31 = 74 := by
  refine ⟨rfl, rfl, rfl, rfl, rfl, rfl, ?_⟩
  have h := part_len cs k
  unfold gI rowOf
  rw [List.getD_eq_getElem?_getD, List.getElem?_append_right (by simp only [List.length_append, List.length_map, List.length_replicate, List.length_cons, List.length_nil]; omega)]
  simp only [List.length_append, List.length_map, List.length_replicate, List.length_cons, List.length_nil]
  have e : 31 - (0 + 1 + 1 + 1 + 1 + 1 + 1 + (partOf cs k).length + (25 - (partOf cs k).length)) = 0 := by omega
  rw [e]
  rfl
theorem row_codes {n : Int} {cs : List Nat} {k : Nat} : codesOf (rowOf n cs k) = (partOf cs k).map fun (c : Nat) => (c : Int) := by
  have h := part_len cs k
  unfold codesOf
  rw [row_get.2.2.2.2.2.1]
  have e : (6 : Int) + ((partOf cs k).length : Int) = ((6 + (partOf cs k).length : Nat) : Int) := by omega
  rw [e, show (6 : Int) = ((6 : Nat) : Int) from rfl, cutA_nat _ _ _ (by rw [row_len]; omega) (by rw [row_len]; omega)]
  unfold rowOf
  rw [List.append_assoc, List.append_assoc]
  show List.take (6 + (partOf cs k).length - 6) ((partOf cs k).map (fun (c : Nat) => (c : Int)) ++ _) = _
  rw [show 6 + (partOf cs k).length - 6 = ((partOf cs k).map fun (c : Nat) => (c : Int)).length by rw [List.length_map]; omega, List.take_left]
theorem row_rest {n : Int} {cs : List Nat} {k : Nat} : restOf (rowOf n cs k) = List.replicate (25 - (partOf cs k).length) 0 := by
  have h := part_len cs k
  unfold restOf
  rw [row_get.2.2.2.2.2.1]
  have e : (6 : Int) + ((partOf cs k).length : Int) = ((6 + (partOf cs k).length : Nat) : Int) := by omega
  rw [e, show (31 : Int) = ((31 : Nat) : Int) from rfl, cutA_nat _ _ _ (by rw [row_len]; omega) (by rw [row_len]; omega)]
  unfold rowOf
  rw [List.append_assoc]
  have e2 : 6 + (partOf cs k).length = ([74, (k : Int), (manyOf cs : Int), n / 256, n % 256, ((partOf cs k).length : Int)] ++ (partOf cs k).map (fun (c : Nat) => (c : Int))).length := by
    simp only [List.length_append, List.length_map, List.length_cons, List.length_nil]
  rw [e2, List.drop_left]
  have e3 : 31 - ([74, (k : Int), (manyOf cs : Int), n / 256, n % 256, ((partOf cs k).length : Int)] ++ (partOf cs k).map (fun (c : Nat) => (c : Int))).length = (List.replicate (25 - (partOf cs k).length) (0 : Int)).length := by
    rw [← e2, List.length_replicate]
    omega
  rw [e3, List.take_left]
theorem zeros_rep (n : Nat) : zerosOf (List.replicate n 0) = true := List.all_eq_true.mpr fun x hx => by rw [(List.mem_replicate.mp hx).2]; rfl
theorem cut_part {cs : List Nat} {k : Nat} : cutS (ofL cs) (some (24 * (0 + (k : Int)))) (some (24 * (0 + (k : Int)) + 24)) = ofL (partOf cs k) := by
  have e1 : (24 : Int) * (0 + (k : Int)) = ((24 * k : Nat) : Int) := by omega
  have e2 : ((24 * k : Nat) : Int) + 24 = ((24 * k + 24 : Nat) : Int) := by omega
  rw [e1, e2, cutS_ofL, cutA_mid]
  unfold partOf
  rw [show 24 * k + 24 - 24 * k = 24 by omega]
theorem row_piece {n : Int} {cs : List Nat} {k : Nat} (hs : Sgs cs) (hk : k < manyOf cs) : isPiece (rowOf n cs k) = true := by
  have h := part_len cs k
  obtain ⟨g0, g1, g2, g3, g4, g5, g31⟩ := row_get (n := n) (cs := cs) (k := k)
  unfold isPiece marksOf
  rw [g0, g31, g1, g2, g5, row_codes, row_rest, zeros_rep]
  have h1 : ¬ ((k : Int) ≥ (manyOf cs : Int)) := by omega
  have h2 : ¬ (((partOf cs k).length : Int) > 24) := by omega
  have h3 : ((partOf cs k).map fun (c : Nat) => (c : Int)).all isSg = true := List.all_eq_true.mpr fun x hx => by
    obtain ⟨c, hc, rfl⟩ := List.mem_map.mp hx
    exact part_sg hs k c hc
  rw [decide_eq_false h1, decide_eq_false h2, h3]
  rfl
theorem row_text {n : Int} {cs : List Nat} {k : Nat} : txtOf (codesOf (rowOf n cs k)) = ofL (partOf cs k) := by
  unfold txtOf
  rw [row_codes, List.map_map]
  congr 1
  conv => rhs; rw [← List.map_id (partOf cs k)]
  exact List.map_congr_left fun c _ => Int.toNat_natCast c
section
variable {P : Program} {w : World} {K : PySem.W.Frag} {mg : Str → Option Value} {base : Heap}
/-- the signs of a drawn text -/
def signL : List Nat := (List.range' 32 95).filter (· ≠ 37) ++ [10]
theorem signL_sg : signL.all (fun (c : Nat) => isSg (c : Int)) = true := by decide +kernel
theorem signL_len : signL.length = 95 := by decide +kernel
def signS : Str := litOf (defBody sStored)
theorem signS_tl : tl signS = signL := by decide +kernel
theorem signS_len : signS.length = 95 := by decide +kernel
def spStored (K : PySem.W.Frag) : Sp := fun vs H Q _ => ∃ (b : Addr) (m : Int), vs = [.ref b, .int m] ∧ Box H b ∧ 0 ≤ m ∧ m ≤ 200 ∧ ∀ (cs : List Nat) (H' : Hp), cs.length = m.toNat → Sgs cs → Box H' b → But b H H' → Q (.str (ofL cs)) H'
theorem scSt : FnScope ["box", "many", "signs", "text", "turn"] ["box", "many"] (defScope sStored) := ⟨rfl, rfl, rfl, by decide +kernel, rfl, by decide +kernel, by decide +kernel⟩
theorem ok_stored {f fD : Addr} {fd fdD : FuncData} (F : Fun K "_law_stored_text" "_law_stored_text" sStored f fd) (M : NamesW mg) (FD : Fun K "_law_draw" "_law_draw" sDraw fD fdD) (mD : mg "_law_draw" = some (.ref fD)) (bD : Binds K fdD ["box", "many"] []) :
    FnOk P w K mg base CX0 2 f fd ["box", "many"] (spStored K) := by
  have GD : FnOk P w K mg base CX0 1 fD fdD ["box", "many"] (spDraw K) := ok_draw FD M.toNames
  have kD := FD.kp
  refine F.ok scSt (fun vs H Q E h => ?_) (fun cdv A outer s H vs Q E hr h => ?_)
  · obtain ⟨b, m, rfl, _⟩ := h
    rfl
  · obtain ⟨b, m, rfl, B, h0, h1, q⟩ := h
    have nd := scSt.nd
    refine ⟨_, (pss_cons (ps_set (i := 2) nd rfl (Or.inl rfl) pe_str)
        (pss_cons (ps_set (i := 3) nd rfl (Or.inl rfl) pe_str)
        (pss_cons (ps_for PassesOwn.never rfl (pi_range1 (by rfl) M.range (pa_cons (pv 1) pa_nil)) (pg_name (i := 4) nd rfl (Or.inl rfl)) (pss_one (ps_set (i := 3) nd rfl (Or.inl rfl) (pe_op op_add_str (pv 3) (pe_ix ix_str (pv 2) (pe_call GD (hr.mono (by decide)) rfl mD kD bD .nil pass0 (pa_cons (pv 0) (pa_cons (pe_callB call_lenS (by rfl) M.len PySem.boot_len (pa_cons (pv 2) pa_nil)) pa_nil))) (fun _ _ => rfl))))))
        (pss_one (ps_ret (pv 3)))))), ?_⟩
    have sl := signS_len
    refine ⟨_, rfl, _, rfl, by omega, by omega, for_range (n := m.toNat) (fun j σ H' => ∃ (cs : List Nat) (v4 : Option V), σ = [some (.ref b), some (.int m), some (.str signS), some (.str (ofL cs)), v4] ∧ cs.length = j ∧ Sgs cs ∧ Box H' b ∧ But b H H')
      ⟨[], _, rfl, rfl, (fun c hc => nomatch hc), B, But.refl b H⟩ ?_ ?_⟩
    · rintro j σ H1 hj ⟨cs, v4, rfl, cl, sg, B1, U1⟩
      refine ⟨_, rfl, _, rfl, _, rfl, _, rfl, signS, rfl, by rw [sl]; decide, b, _, rfl, B1, by rw [sl]; decide, fun r H2 r0 r1 B2 U2 => ?_⟩
      rw [sl] at r1
      obtain ⟨k, rfl⟩ : ∃ k : Nat, r = (k : Int) := ⟨r.toNat, by omega⟩
      have hk : k < signL.length := by rw [signL_len]; omega
      have hg := List.getElem?_eq_getElem hk
      have sgk := List.all_eq_true.mp signL_sg _ (List.getElem_mem hk)
      generalize signL[k] = c at hg sgk
      refine ⟨signS, _, c, rfl, rfl, by rw [sl]; decide, atI_nat (j := k) (by rw [← signS_tl] at hg; exact hg), _, _, rfl, rfl, ?_, cs ++ [c], _, by rw [← ofL_app]; rfl, by rw [List.length_append, cl]; rfl, fun d hd => ?_, B2, U1.trans U2⟩
      · rw [ofL_len]
        show cs.length + 1 ≤ sizeLine
        exact Nat.le_trans (m := 300) (by omega) (by decide)
      · rcases List.mem_append.mp hd with h | h
        · exact sg d h
        · rw [List.mem_singleton.mp h]
          exact sgk
    · rintro σ H1 ⟨cs, v4, rfl, cl, sg, B1, U1⟩
      exact ⟨_, rfl, q cs H1 cl sg B1 U1⟩
def spPieces (K : PySem.W.Frag) : Sp := fun vs H Q _ => ∃ (n : Int) (cs : List Nat), vs = [.int n, .str (ofL cs)] ∧ 0 ≤ n ∧ n < 65536 ∧ cs.length ≤ 200 ∧
  ∀ (D : Addr) (rs : List Addr) (H' : Hp), Same H H' → H D = none → H' D = some (.lst (rs.map V.ref)) → rs.length = manyOf cs → (∀ k r, rs[k]? = some r → H r = none ∧ H' r = some (.lst ((rowOf n cs k).map V.int))) → Q (.ref D) H'
theorem scPi : FnScope ["number", "text", "blocks", "many", "k", "part", "block", "sign"] ["number", "text"] (defScope sPieces) := ⟨rfl, rfl, rfl, by decide +kernel, rfl, by decide +kernel, by decide +kernel⟩
theorem ok_pieces {f : Addr} {fd : FuncData} (F : Fun K "_law_pieces" "_law_pieces" sPieces f fd) (M : NamesW mg) :
    FnOk P w K mg base CX0 1 f fd ["number", "text"] (spPieces K) := by
  refine F.ok scPi (fun vs H Q E h => ?_) (fun cdv A outer s H vs Q E hr h => ?_)
  · obtain ⟨n, cs, rfl, _⟩ := h
    rfl
  · obtain ⟨n, cs, rfl, h0, h1, hl, q⟩ := h
    have nd := scPi.nd
    refine ⟨_, (pss_cons (ps_set (i := 2) nd rfl (Or.inl rfl) (pe_lst pa_nil))
        (pss_cons (ps_set (i := 3) nd rfl (Or.inl rfl) (pe_callB (call_max2 rfl) (by rfl) M.max (by decide +kernel) (pa_cons pe_int (pa_cons (pe_op op_fdiv (pe_op op_add (pe_callB call_lenS (by rfl) M.len PySem.boot_len (pa_cons (pv 1) pa_nil)) pe_int) pe_int) pa_nil))))
        (pss_cons (ps_for PassesOwn.never rfl (pi_range1 (by rfl) M.range (pa_cons (pv 3) pa_nil)) (pg_name (i := 4) nd rfl (Or.inl rfl)) (pss_cons (ps_set (i := 5) nd rfl (Or.inl rfl) (pe_slice sl_str (pv 1) (po_some (pe_op op_mul pe_int (pv 4))) (po_some (pe_op op_add (pe_op op_mul pe_int (pv 4)) pe_int))))
        (pss_cons (ps_set (i := 6) nd rfl (Or.inl rfl) (pe_lst (pa_cons pe_int (pa_cons (pv 4) (pa_cons (pv 3) (pa_cons (pe_op op_fdiv (pv 0) pe_int) (pa_cons (pe_op op_mod (pe_callTy call_int1 (by rfl) M.int (by decide +kernel) (pa_cons (pv 0) pa_nil)) pe_int) (pa_cons (pe_callB call_lenS (by rfl) M.len PySem.boot_len (pa_cons (pv 5) pa_nil)) pa_nil))))))))
        (pss_cons (ps_for PassesOwn.never rfl (pi_str (pv 5)) (pg_name (i := 7) nd rfl (Or.inl rfl)) (pss_one (ps_expr (pe_bm PySem.F.plainAttrs_list PySem.F.slot_list_append PySem.F.type_list_append mt_append (pv 6) (pa_cons (pe_callB call_ord (by rfl) M.ord (by decide +kernel) (pa_cons (pv 7) pa_nil)) pa_nil)))))
        (pss_one (ps_expr (pe_bm PySem.F.plainAttrs_list PySem.F.slot_list_append PySem.F.type_list_append mt_append (pv 2) (pa_cons (pe_op op_cat (pe_op op_cat (pv 6) (pe_op op_rep (pe_lst (pa_cons pe_int pa_nil)) (pe_op op_sub pe_int (pe_callB call_len_seq (by rfl) M.len PySem.boot_len (pa_cons (pv 6) pa_nil))))) (pe_lst (pa_cons pe_int pa_nil))) pa_nil))))))))
        (pss_one (ps_ret (pv 2)))))), ?_⟩
    have tl0 : (ofL cs).length ≤ sizeLine := by rw [ofL_len]; exact Nat.le_trans hl (by decide)
    refine ⟨(by show 0 ≤ sizeLine; decide), fun D nD => ?_⟩
    have em : (if ((((ofL cs).length : Int) + 23) / 24) > 1 then ((((ofL cs).length : Int) + 23) / 24) else (1 : Int)) = (manyOf cs : Int) := by
      rw [ofL_len]
      unfold manyOf
      split <;> omega
    refine ⟨_, rfl, _, rfl, tl0, _, _, rfl, rfl, _, _, rfl, rfl, ⟨by decide, by decide⟩, _, _, rfl, ?_⟩
    rw [em]
    have mb : manyOf cs ≤ 10 := by unfold manyOf; omega
    refine ⟨_, rfl, _, rfl, by omega, by omega, for_range (n := ((manyOf cs : Nat) : Int).toNat) (fun k σ H' => ∃ (v4 v5 v6 v7 : Option V) (rs : List Addr), σ = [some (.int n), some (.str (ofL cs)), some (.ref D), some (.int (manyOf cs)), v4, v5, v6, v7] ∧ Same H H' ∧ H' D = some (.lst (rs.map V.ref)) ∧ rs.length = k ∧
        ∀ i r, rs[i]? = some r → H r = none ∧ r ≠ D ∧ H' r = some (.lst ((rowOf n cs i).map V.int)))
      ⟨_, _, _, _, [], rfl, same_new nD, upd_same, rfl, fun i r h => by simp at h⟩ ?_ ?_⟩
    · rintro k σ H1 hk ⟨v4, v5, v6, v7, rs, rfl, S1, hD, rl, hrs⟩
      refine ⟨_, rfl, _, rfl, _, _, rfl, rfl, .inl ⟨by decide, by decide⟩, _, rfl, _, rfl, _, _, rfl, rfl, .inl ⟨by decide, by decide⟩, _, _, rfl, rfl, _, rfl, _, rfl, tl0, ?_⟩
      rw [cut_part]
      have pl := part_len cs k
      have pl0 : (ofL (partOf cs k)).length ≤ sizeLine := by rw [ofL_len]; exact Nat.le_trans pl (by decide)
      refine ⟨_, rfl, _, rfl, _, rfl, _, _, rfl, rfl, ⟨by decide, by decide⟩, _, rfl, .inl ⟨_, rfl, _, _, rfl, rfl, (by show (0 : Int) < 256; decide), _, rfl, _, rfl, pl0, (by show 6 ≤ sizeLine; decide), fun p np => ?_⟩⟩
      have pD : p ≠ D := fun e => by rw [e, hD] at np; cases np
      rw [ofL_len, Int.zero_add]
      have S2 := same_new (o := .lst [V.int 74, V.int (k : Int), V.int (manyOf cs : Int), V.int (n / 256), V.int (n % 256), V.int ((partOf cs k).length : Int)]) np
      have hp : upd H1 p (.lst [V.int 74, V.int (k : Int), V.int (manyOf cs : Int), V.int (n / 256), V.int (n % 256), V.int ((partOf cs k).length : Int)]) p = some (.lst ([74, (k : Int), (manyOf cs : Int), n / 256, n % 256, ((partOf cs k).length : Int)].map V.int)) := upd_same
      generalize upd H1 p (.lst [V.int 74, V.int (k : Int), V.int (manyOf cs : Int), V.int (n / 256), V.int (n % 256), V.int ((partOf cs k).length : Int)]) = H2 at S2 hp
      generalize hpre : [74, (k : Int), (manyOf cs : Int), n / 256, n % 256, ((partOf cs k).length : Int)] = pre at hp
      have prl : pre.length = 6 := by rw [← hpre]; rfl
      refine ⟨_, rfl, _, rfl, for_it walk_str (fun i σ H' => ∃ v7 : Option V, σ = [some (.int n), some (.str (ofL cs)), some (.ref D), some (.int (manyOf cs)), some (.int k), some (.str (ofL (partOf cs k))), some (.ref p), v7] ∧ Same H1 H' ∧ H' p = some (.lst ((pre ++ ((partOf cs k).take i).map fun (c : Nat) => (c : Int)).map V.int)))
        ⟨_, rfl, S2, by rw [hp]; simp⟩ (fun _ _ _ _ _ => trivial) ?_ ?_⟩
      · rintro i x σ H3 H4 hi ⟨v7, rfl, S3, hp3⟩ ⟨rfl, c, hc, rfl⟩
        have hc2 : (partOf cs k)[i]? = some c := by
          rw [← tl_ofL (partOf cs k)]
          exact (Array.getElem?_toList).trans hc
        refine ⟨_, rfl, .inl ⟨rfl, _, SqL.of hp3⟩, _, rfl, _, rfl, rfl, p, _, _, rfl, rfl, hp3, ?_, _, rfl, same_upd S3 np, ?_⟩
        · rw [List.length_map, List.length_append, List.length_map, List.length_take, prl]
          exact small_line (by omega)
        · rw [takeS hc2]
          refine upd_same.trans ?_
          rw [List.map_append (f := fun (c : Nat) => (c : Int)), ← List.append_assoc, List.map_append (f := V.int) (l₁ := pre ++ _)]
          rfl
      · rintro σ H3 ⟨v7, rfl, S3, hp3⟩
        have ez : (ofL (partOf cs k)).cps.size = (partOf cs k).length := ofL_len _
        rw [ez, List.take_length] at hp3
        generalize hblk : pre ++ (partOf cs k).map (fun (c : Nat) => (c : Int)) = blk at hp3
        have bl : blk.length = 6 + (partOf cs k).length := by rw [← hblk, List.length_append, List.length_map, prl]
        have hD3 := S3 _ _ hD
        refine ⟨_, rfl, .inl ⟨rfl, _, SqL.of hD3⟩, _, rfl, (by show 1 ≤ sizeLine; decide), fun p1 np1 => ⟨_, rfl, p, _, rfl, .inl (SqL.of (same_new np1 _ _ hp3)), _, _, rfl, rfl, p1, _, _, rfl, rfl, upd_same, ?_⟩⟩
        rw [List.length_map, bl]
        have pl2 : (31 - ((6 + (partOf cs k).length : Nat) : Int)).toNat = 25 - (partOf cs k).length := by omega
        refine ⟨by omega, by omega, ?_, fun p2 np2 => ?_⟩
        · rw [pl2]
          show 1 * _ ≤ sizeLine
          exact Nat.le_trans (m := 25) (by omega) (by decide)
        rw [pl2, rep_flat]
        have X1 := same_new (o := .lst [V.int 0]) np1
        have X2 := same_new (o := .lst ((List.replicate (25 - (partOf cs k).length) (0 : Int)).map V.int)) np2
        have hp2 : upd (upd H3 p1 (.lst [V.int 0])) p2 (.lst ((List.replicate (25 - (partOf cs k).length) (0 : Int)).map V.int)) p2 = some (.lst ((List.replicate (25 - (partOf cs k).length) (0 : Int)).map V.int)) := upd_same
        have X12 := X1.trans X2
        generalize upd (upd H3 p1 (.lst [V.int 0])) p2 (.lst ((List.replicate (25 - (partOf cs k).length) (0 : Int)).map V.int)) = H4 at X12 hp2
        clear X1 X2
        refine ⟨p, p2, _, _, rfl, rfl, X12 _ _ hp3, hp2, ?_, fun p3 np3 => ?_⟩
        · rw [List.length_map, List.length_map, bl, List.length_replicate]
          exact Nat.le_trans (m := 40) (by omega) (by decide)
        rw [← List.map_append]
        have X3 := X12.trans (same_new (o := .lst ((blk ++ List.replicate (25 - (partOf cs k).length) (0 : Int)).map V.int)) np3)
        have hp3' : upd H4 p3 (.lst ((blk ++ List.replicate (25 - (partOf cs k).length) (0 : Int)).map V.int)) p3 = some (.lst ((blk ++ List.replicate (25 - (partOf cs k).length) (0 : Int)).map V.int)) := upd_same
        generalize upd H4 p3 (.lst ((blk ++ List.replicate (25 - (partOf cs k).length) (0 : Int)).map V.int)) = H5 at X3 hp3'
        refine ⟨(by show 1 ≤ sizeLine; decide), fun p4 np4 => ?_⟩
        have X4 := same_new (o := .lst [V.int 74]) np4
        refine ⟨p3, p4, _, _, rfl, rfl, X4 _ _ hp3', upd_same, ?_, fun p5 np5 => ?_⟩
        · rw [List.length_map, List.length_append, bl, List.length_replicate]
          show _ + 1 ≤ sizeLine
          exact Nat.le_trans (m := 40) (by omega) (by decide)
        have er : (blk ++ List.replicate (25 - (partOf cs k).length) (0 : Int)).map V.int ++ [V.int 74] = (rowOf n cs k).map V.int := by
          rw [← hblk, ← hpre]
          unfold rowOf
          rw [List.map_append (l₂ := [(74 : Int)])]
          rfl
        rw [er]
        have X5 := (X3.trans X4).trans (same_new (o := .lst ((rowOf n cs k).map V.int)) np5)
        have hp5 : upd (upd H5 p4 (.lst [V.int 74])) p5 (.lst ((rowOf n cs k).map V.int)) p5 = some (.lst ((rowOf n cs k).map V.int)) := upd_same
        have n5 : H p5 = none := same_none ((S1.trans S3).trans (X3.trans X4)) np5
        generalize upd (upd H5 p4 (.lst [V.int 74])) p5 (.lst ((rowOf n cs k).map V.int)) = H6 at X5 hp5
        have hD6 := X5 _ _ hD3
        have ne5 : p5 ≠ D := fun e => by rw [e] at np5; rw [(X3.trans X4) _ _ hD3] at np5; cases np5
        refine ⟨D, _, _, rfl, rfl, hD6, ?_, _, _, _, _, rs ++ [p5], rfl, same_upd ((S1.trans S3).trans X5) nD, upd_same.trans (by rw [List.map_append]; rfl), by rw [List.length_append, rl]; rfl, fun i r hr => ?_⟩
        · rw [List.length_map]
          exact small_line (by omega)
        · by_cases hi : i < rs.length
          · rw [List.getElem?_append_left hi] at hr
            obtain ⟨h1, h2, h3⟩ := hrs i r hr
            refine ⟨h1, h2, ?_⟩
            rw [upd_ne h2]
            exact X5 _ _ (S3 _ _ h3)
          · have hi2 : i = rs.length := by
              have := (List.getElem?_eq_some_iff.mp hr).1
              rw [List.length_append] at this
              have : i < rs.length + 1 := this
              omega
            rw [hi2, List.getElem?_append_right (Nat.le_refl _), Nat.sub_self] at hr
            cases hr
            refine ⟨n5, ne5, ?_⟩
            rw [upd_ne ne5, hi2, rl]
            exact hp5
    · rintro σ H1 ⟨v4, v5, v6, v7, rs, rfl, S1, hD, rl, hrs⟩
      refine ⟨_, rfl, q D rs H1 S1 nD hD (by rw [rl, Int.toNat_natCast]) fun k r h => ⟨(hrs k r h).1, (hrs k r h).2.2⟩⟩
end
end LB

set_option maxRecDepth 100000
set_option maxHeartbeats 8000000
namespace LB
open PySem PySem.Spec PyProof.Rows L2 TL
/-! ### the law's own reading -/
theorem eqv_nilL (ds : List PyData) : PyData.eqv (.list ds) (.list []) = ds.isEmpty := by cases ds <;> rfl
theorem shaped_intsL (ns : List Int) : SeqAt.shaped (.list (ns.map PyData.int)) = true := PySem.W.ke_shaped_ints ns
def nz (b : List Int) : List Int := b.filter fun x => !decide (x = 0)
theorem nz_zeros (b : List Int) : (nz b).isEmpty = zerosOf b := by
  unfold nz zerosOf
  induction b with
  | nil => rfl
  | cons x r ih =>
    by_cases h : x = 0
    · rw [List.filter_cons_of_neg (by simp [h]), List.all_cons, ih, decide_eq_true h, Bool.true_and]
    · rw [List.filter_cons_of_pos (by simp [h]), List.all_cons, decide_eq_false h, Bool.false_and]
      rfl
theorem nz_take {b : List Int} {j : Nat} {n : Int} (h : b[j]? = some n) : nz (b.take (j + 1)) = nz (b.take j) ++ if n = 0 then [] else [n] := by
  unfold nz
  rw [takeS h, List.filter_append]
  congr 1
  by_cases e : n = 0
  · simp [e]
  · simp [e]
/-- the law's own signs, from the blank on -/
def signT : Str := litOf ((defBody sDueP).drop 1)
theorem signT_len : signT.length = 95 := by decide +kernel
theorem signT_at : (List.range 95).all (fun k => k == 5 || (tl signT)[k]? == some (32 + k)) = true := by decide +kernel
theorem signT_get {k : Nat} (h : k < 95) (n : k ≠ 5) : (tl signT)[k]? = some (32 + k) := by
  have e := List.all_eq_true.mp signT_at k (List.mem_range.mpr h)
  simp only [Bool.or_eq_true, beq_iff_eq] at e
  exact e.resolve_left n
theorem txt_snoc {cs : List Int} {j : Nat} {n : Int} (h : cs[j]? = some n) : txtOf (cs.take (j + 1)) = txtOf (cs.take j) ++ ofL [n.toNat] := by
  unfold txtOf
  rw [takeS h, List.map_append, ofL_app]
  rfl
section
variable {P : Program} {w : World} {K : PySem.W.Frag} {mg : Str → Option Value} {base : Heap}
theorem scDuh : FnScope ["block", "byte"] ["block"] (defScope sDueH) := ⟨rfl, rfl, rfl, by decide +kernel, rfl, by decide +kernel, by decide +kernel⟩
theorem ok_dueH {f : Addr} {fd : FuncData} (F : Fun K "_law_due_head" "_law_due_head" sDueH f fd) : FnOk P w K mg base CX0 1 f fd ["block"] (spDecH K) := by
  refine F.ok scDuh (fun vs H Q E h => ?_) (fun cdv A outer s H vs Q E hr h => ?_)
  · obtain ⟨a, b, rfl, _⟩ := h
    rfl
  · obtain ⟨a, b, rfl, ha, hb, q⟩ := h
    have nd := scDuh.nd
    refine ⟨_, (pss_cons (ps_if (PW.pt (pw_or (pt_cmpR op_ne (pe_ix ix_list (pv 0) pe_int (fun _ _ => rfl)) pe_int (nomark _)) (pw_or (pt_cmpR op_ne (pe_ix ix_list (pv 0) pe_int (fun _ _ => rfl)) pe_int (nomark _)) (pw_or1 (pt_cmpR (op_neD hr.units) (pe_lc (own := [("byte", 1)]) (g := (gName 1)) rfl nd (pi_list (pe_slice sl_list (pv 0) (po_some pe_int) (po_some pe_int))) (blkOk_by (N := ["block", "byte"]) (sc := (defScope sDueH)) (by decide +kernel)) (fun _ _ _ _ _ => (pg_name (i := 1) nd rfl (Or.inl rfl))) (fun _ _ _ _ _ => (pts_one (pt_cmpR op_ne (pv 1) pe_int (nomark _)))) (fun _ _ _ _ _ => (pv 1))) (pe_lst pa_nil) (nomark _)))))) (pss_one (ps_ret pe_non)) pss_nil)
        (pss_cons (ps_if (pt_cmpR op_gt (pe_op op_add (pe_op op_mul pe_int (pe_ix ix_list (pv 0) pe_int (fun _ _ => rfl))) (pe_ix ix_list (pv 0) pe_int (fun _ _ => rfl))) pe_int (nomark _)) (pss_one (ps_ret pe_non)) pss_nil)
        (pss_one (ps_ret (pe_op op_add (pe_op op_mul pe_int (pe_ix ix_list (pv 0) pe_int (fun _ _ => rfl))) (pe_ix ix_list (pv 0) pe_int (fun _ _ => rfl))))))), ?_⟩
    have no : ∀ H', Same H H' → isHead b = false → Q .non H' := fun H' S e => q _ H' S (by unfold headD; rw [if_neg (by rw [e]; decide)]; exact .non)
    have yes : ∀ H', Same H H' → isHead b = true → Q (.int (256 * gI b 1 + gI b 2)) H' := fun H' S e => q _ H' S (by unfold headD; rw [if_pos e]; exact .int _)
    clear q
    refine ⟨_, rfl, a, _, _, _, rfl, rfl, ha, atI_blk hb (i := 0) (by decide), rfl, _, rfl, ite2 (fun c => ?_) (fun c => ?_)⟩
    · have c := bn c
      rw [dec_int] at c
      exact no H (Same.refl H) (by unfold isHead marksOf; rw [c]; rfl)
    have c := bp c
    rw [dec_int] at c
    refine ⟨_, rfl, a, _, _, _, rfl, rfl, ha, atI_blk hb (i := 31) (by decide), rfl, _, rfl, ite2 (fun c1 => ?_) (fun c1 => ?_)⟩
    · have c1 := bn c1
      rw [dec_int] at c1
      exact no H (Same.refl H) (by unfold isHead marksOf; rw [c1, Bool.and_false]; rfl)
    have c1 := bp c1
    rw [dec_int] at c1
    refine ⟨_, rfl, _, rfl, _, rfl, a, _, rfl, ha, fun p np => ?_⟩
    rw [cutI]
    have hp : upd H p (.lst ((cutA b (some 3) (some 31)).map V.int)) p = some (.lst ((cutA b (some 3) (some 31)).map V.int)) := upd_same
    have S1 := same_new (o := .lst ((cutA b (some 3) (some 31)).map V.int)) np
    generalize upd H p (.lst ((cutA b (some 3) (some 31)).map V.int)) = H1 at hp S1
    have cl := cutA_len b (some 3) (some 31)
    have bl := hb.1
    refine ⟨p, rfl, ⟨_, SqL.of hp⟩, fun D nD => ?_⟩
    refine lc_list (K := K) (xs := (cutA b (some 3) (some 31)).map V.int) (fun j H' => Same H1 H' ∧ H' D = some (.lst ((nz ((cutA b (some 3) (some 31)).take j)).map V.int))) ⟨same_new nD, upd_same⟩ (fun j H' _ h => SqL.of (h.1 _ _ hp)) ?_ ?_
    · rintro j x H2 hx ⟨S2, hD⟩
      obtain ⟨n, hn, rfl⟩ := map_at hx
      refine ⟨rfl, _, rfl, rfl, _, rfl, ite2 (fun e => ?_) (fun e => ?_)⟩
      · have e := bn e
        rw [dec_int] at e
        refine ⟨_, rfl, _, hD, ?_, same_upd S2 nD, ?_⟩
        · rw [List.length_map]
          have := List.length_filter_le (fun x => !decide (x = 0)) ((cutA b (some 3) (some 31)).take j)
          rw [List.length_take] at this
          unfold nz
          exact small_line (by omega)
        · rw [nz_take hn, if_neg (of_decide_eq_false e), List.map_append]
          exact upd_same
      · have e := bp e
        rw [dec_int] at e
        refine ⟨S2, ?_⟩
        rw [nz_take hn, if_pos (of_decide_eq_true e), List.append_nil]
        exact hD
    rintro H2 ⟨S2, hD⟩
    rw [List.length_map, List.take_length] at hD
    refine ⟨(by show 0 ≤ sizeLine; decide), fun u nu => ?_⟩
    refine ⟨_, .list [], .lst (SqL.of (same_new nu _ _ hD)) dpI, .lst (SqL.of upd_same) .nil, shaped_intsL _, by decide +kernel, ?_⟩
    have S3 := (S1.trans S2).trans (same_new (o := .lst []) nu)
    rw [eqv_nilL, show ((nz (cutA b (some 3) (some 31))).map PyData.int).isEmpty = (nz (cutA b (some 3) (some 31))).isEmpty from by cases nz (cutA b (some 3) (some 31)) <;> rfl, nz_zeros]
    refine ⟨_, rfl, ite2 (fun c2 => ?_) (fun c2 => ?_)⟩
    · exact no _ S3 (by unfold isHead; rw [bn c2, Bool.and_false]; rfl)
    have c2 := bp c2
    have ha3 := sqL_same S3 ha
    refine ⟨_, rfl, a, _, _, _, rfl, rfl, ha3, atI_blk hb (i := 1) (by decide), _, _, rfl, rfl, .inl ⟨by decide, by decide⟩, _, rfl, a, _, _, _, rfl, rfl, ha3, atI_blk hb (i := 2) (by decide), _, _, rfl, rfl, _, _, rfl, rfl, _, rfl, ite2 (fun c3 => ?_) (fun c3 => ?_)⟩
    · exact no _ S3 (by unfold isHead; rw [show decide (256 * gI b 1 + gI b 2 > 1000) = true from c3, Bool.not_true, Bool.and_false])
    refine ⟨_, rfl, a, _, _, _, rfl, rfl, ha3, atI_blk hb (i := 1) (by decide), _, _, rfl, rfl, .inl ⟨by decide, by decide⟩, _, rfl, a, _, _, _, rfl, rfl, ha3, atI_blk hb (i := 2) (by decide), _, _, rfl, rfl, yes _ S3 ?_⟩
    have c3 : decide (256 * gI b 1 + gI b 2 > 1000) = false := Bool.eq_false_iff.mpr c3
    unfold isHead marksOf
    rw [c, c1, c2, c3]
    rfl
end
end LB

set_option maxRecDepth 100000
set_option maxHeartbeats 8000000
namespace LB
open PySem PySem.Spec PyProof.Rows L2 TL
section
variable {P : Program} {w : World} {K : PySem.W.Frag} {mg : Str → Option Value} {base : Heap}
theorem scDup : FnScope ["block", "signs", "text", "code", "byte"] ["block"] (defScope sDueP) := ⟨rfl, rfl, rfl, by decide +kernel, rfl, by decide +kernel, by decide +kernel⟩
theorem ok_dueP {f : Addr} {fd : FuncData} (F : Fun K "_law_due_piece" "_law_due_piece" sDueP f fd) : FnOk P w K mg base CX0 1 f fd ["block"] (spDecP K) := by
  refine F.ok scDup (fun vs H Q E h => ?_) (fun cdv A outer s H vs Q E hr h => ?_)
  · obtain ⟨a, b, rfl, _⟩ := h
    rfl
  · obtain ⟨a, b, rfl, ha, hb, q⟩ := h
    have nd := scDup.nd
    refine ⟨_, (pss_cons (ps_if (PW.pt (pw_or (pt_cmpR op_ne (pe_ix ix_list (pv 0) pe_int (fun _ _ => rfl)) pe_int (nomark _)) (pw_or (pt_cmpR op_ne (pe_ix ix_list (pv 0) pe_int (fun _ _ => rfl)) pe_int (nomark _)) (pw_or (pt_cmpR op_ge (pe_ix ix_list (pv 0) pe_int (fun _ _ => rfl)) (pe_ix ix_list (pv 0) pe_int (fun _ _ => rfl)) (nomark _)) (pw_or1 (pt_cmpR op_gt (pe_ix ix_list (pv 0) pe_int (fun _ _ => rfl)) pe_int (nomark _))))))) (pss_one (ps_ret pe_non)) pss_nil)
        (pss_cons (ps_set (i := 1) nd rfl (Or.inl rfl) pe_str)
        (pss_cons (ps_set (i := 2) nd rfl (Or.inl rfl) pe_str)
        (pss_cons (ps_for PassesOwn.never rfl (pi_list (pe_slice sl_list (pv 0) (po_some pe_int) (po_some (pe_op op_add pe_int (pe_ix ix_list (pv 0) pe_int (fun _ _ => rfl)))))) (pg_name (i := 3) nd rfl (Or.inl rfl)) (pss_one (ps_if (pt_cmpR op_eq (pv 3) pe_int (nomark _)) (pss_one (ps_set (i := 2) nd rfl (Or.inl rfl) (pe_op op_add_str (pv 2) pe_str))) (pss_one (ps_if (PW.pt (pw_or (pt_cmpR op_eq (pv 3) pe_int (nomark _)) (pw_or (pt_cmpR op_lt (pv 3) pe_int (nomark _)) (pw_or1 (pt_cmpR op_gt (pv 3) pe_int (nomark _)))))) (pss_one (ps_ret pe_non)) (pss_one (ps_set (i := 2) nd rfl (Or.inl rfl) (pe_op op_add_str (pv 2) (pe_ix ix_str (pv 1) (pe_op op_sub (pv 3) pe_int) (fun _ _ => rfl))))))))))
        (pss_cons (ps_if (pt_cmpR (op_neD hr.units) (pe_lc (own := [("byte", 4)]) (g := (gName 4)) rfl nd (pi_list (pe_slice sl_list (pv 0) (po_some (pe_op op_add pe_int (pe_ix ix_list (pv 0) pe_int (fun _ _ => rfl)))) (po_some pe_int))) (blkOk_by (N := ["block", "signs", "text", "code", "byte"]) (sc := (defScope sDueP)) (by decide +kernel)) (fun _ _ _ _ _ => (pg_name (i := 4) nd rfl (Or.inl rfl))) (fun _ _ _ _ _ => (pts_one (pt_cmpR op_ne (pv 4) pe_int (nomark _)))) (fun _ _ _ _ _ => (pv 4))) (pe_lst pa_nil) (nomark _)) (pss_one (ps_ret pe_non)) pss_nil)
        (pss_one (ps_ret (pe_tup (pa_cons (pe_ix ix_list (pv 0) pe_int (fun _ _ => rfl)) (pa_cons (pe_ix ix_list (pv 0) pe_int (fun _ _ => rfl)) (pa_cons (pe_op op_add (pe_op op_mul pe_int (pe_ix ix_list (pv 0) pe_int (fun _ _ => rfl))) (pe_ix ix_list (pv 0) pe_int (fun _ _ => rfl))) (pa_cons (pv 2) pa_nil)))))))))))), ?_⟩
    have no : ∀ H', Same H H' → isPiece b = false → Q .non H' := fun H' S e => q _ H' S (by unfold pieceD; rw [if_neg (by rw [e]; decide)]; exact .non)
    have bl := hb.1
    have st := signT_len
    have cl : (codesOf b).length ≤ 32 := by have := cutA_len b (some 6) (some (6 + gI b 5)); unfold codesOf; omega
    refine ⟨_, rfl, a, _, _, _, rfl, rfl, ha, atI_blk hb (i := 0) (by decide), rfl, _, rfl, ite2 (fun c => ?_) (fun c => ?_)⟩
    · have c := bn c
      rw [dec_int] at c
      exact no H (Same.refl H) (by unfold isPiece marksOf; rw [c]; rfl)
    have c := bp c
    rw [dec_int] at c
    refine ⟨_, rfl, a, _, _, _, rfl, rfl, ha, atI_blk hb (i := 31) (by decide), rfl, _, rfl, ite2 (fun c1 => ?_) (fun c1 => ?_)⟩
    · have c1 := bn c1
      rw [dec_int] at c1
      exact no H (Same.refl H) (by unfold isPiece marksOf; rw [c1, Bool.and_false]; rfl)
    have c1 := bp c1
    rw [dec_int] at c1
    have mk : marksOf b 74 = true := by unfold marksOf; rw [c, c1]; rfl
    refine ⟨_, rfl, a, _, _, _, rfl, rfl, ha, atI_blk hb (i := 1) (by decide), _, rfl, a, _, _, _, rfl, rfl, ha, atI_blk hb (i := 2) (by decide), _, _, rfl, rfl, _, rfl, ite2 (fun c2 => ?_) (fun c2 => ?_)⟩
    · exact no H (Same.refl H) (by unfold isPiece; rw [show decide (gI b 1 ≥ gI b 2) = true from c2, mk]; rfl)
    refine ⟨_, rfl, a, _, _, _, rfl, rfl, ha, atI_blk hb (i := 5) (by decide), _, _, rfl, rfl, _, rfl, ite2 (fun c3 => ?_) (fun c3 => ?_)⟩
    · exact no H (Same.refl H) (by unfold isPiece; rw [show decide (gI b 5 > 24) = true from c3]; simp)
    have k1 : decide (gI b 1 ≥ gI b 2) = false := Bool.eq_false_iff.mpr c2
    have k2 : decide (gI b 5 > 24) = false := Bool.eq_false_iff.mpr c3
    refine ⟨_, rfl, _, rfl, _, rfl, a, _, _, _, rfl, rfl, ha, atI_blk hb (i := 5) (by decide), _, _, rfl, rfl, _, rfl, a, _, rfl, ha, fun p np => ?_⟩
    rw [cutI, show cutA b (some 6) (some (6 + gI b 5)) = codesOf b from rfl]
    have hp : upd H p (.lst ((codesOf b).map V.int)) p = some (.lst ((codesOf b).map V.int)) := upd_same
    have S1 := same_new (o := .lst ((codesOf b).map V.int)) np
    generalize upd H p (.lst ((codesOf b).map V.int)) = H1 at hp S1
    refine ⟨p, rfl, ⟨_, SqL.of hp⟩, ?_⟩
    refine for_list (K := K) (xs := (codesOf b).map V.int) (fun j σ H' => ∃ v3 : Option V, σ = [some (.ref a), some (.str signT), some (.str (txtOf ((codesOf b).take j))), v3, none] ∧ H' = H1 ∧ ∀ x ∈ (codesOf b).take j, isSg x = true)
      ⟨_, rfl, rfl, fun x h => by simp at h⟩ (fun j σ H' _ h => by obtain ⟨_, _, rfl, _⟩ := h; exact SqL.of hp) ?_ ?_
    · rintro j x σ H2 hx ⟨v3, rfl, rfl, sg⟩
      obtain ⟨n, hn, rfl⟩ := map_at hx
      have hjl : j < (codesOf b).length := (List.getElem?_eq_some_iff.mp hn).1
      have tl0 : (txtOf ((codesOf b).take j)).length + 1 ≤ sizeLine := by
        unfold txtOf
        rw [ofL_len, List.length_map, List.length_take]
        exact Nat.le_trans (m := 40) (by omega) (by decide)
      have step : isSg n = true → ∀ z : Str, z = ofL [n.toNat] → ([some (V.ref a), some (.str signT), some (.str (txtOf ((codesOf b).take j))), some (.int n), none].set 2 (some (.str (txtOf ((codesOf b).take j) ++ z))) : L2.St) = [some (.ref a), some (.str signT), some (.str (txtOf ((codesOf b).take (j + 1)))), some (.int n), none] ∧ H2 = H2 ∧ ∀ x ∈ (codesOf b).take (j + 1), isSg x = true := fun hs z hz => by
        refine ⟨by rw [hz, ← txt_snoc hn]; rfl, rfl, fun x hx => ?_⟩
        rw [takeS hn] at hx
        rcases List.mem_append.mp hx with h | h
        · exact sg x h
        · rw [List.mem_singleton.mp h]
          exact hs
      refine ⟨_, rfl, rfl, _, rfl, ite_int (fun e => ?_) (fun e => ?_)⟩
      · subst e
        exact ⟨_, rfl, _, _, rfl, rfl, tl0, _, step (by decide) _ rfl⟩
      have bad : isSg n = false → Q .non H2 := fun e => no H2 S1 (by
        unfold isPiece
        rw [show (codesOf b).all isSg = false from Bool.eq_false_iff.mpr fun z => by rw [List.all_eq_true.mp z n (List.mem_of_getElem? hn)] at e; cases e]
        simp)
      refine ⟨_, rfl, rfl, _, rfl, ite_int (fun e2 => bad (by subst e2; decide)) (fun e2 => ?_)⟩
      refine ⟨_, rfl, _, _, rfl, rfl, _, rfl, ite2 (fun e3 => bad ?_) (fun e3 => ?_)⟩
      · have := of_decide_eq_true e3
        unfold isSg
        rw [decide_eq_false e, decide_eq_false (show ¬ 32 ≤ n by omega)]
        rfl
      refine ⟨_, rfl, _, _, rfl, rfl, _, rfl, ite2 (fun e4 => bad ?_) (fun e4 => ?_)⟩
      · have := of_decide_eq_true e4
        unfold isSg
        rw [decide_eq_false e, decide_eq_false (show ¬ n ≤ 126 by omega), Bool.and_false]
        rfl
      have e3 : ¬ n < 32 := fun z => e3 (decide_eq_true z)
      have e4 : ¬ 126 < n := fun z => e4 (decide_eq_true z)
      obtain ⟨k, rfl⟩ : ∃ k : Nat, n = ((32 + k : Nat) : Int) := ⟨(n - 32).toNat, by omega⟩
      have hk := signT_get (k := k) (by omega) (by omega)
      have ek : ((32 + k : Nat) : Int) - 32 = (k : Int) := by omega
      refine ⟨_, rfl, _, rfl, _, rfl, _, _, rfl, rfl, signT, _, 32 + k, rfl, rfl, by rw [st]; decide, ?_, _, _, rfl, rfl, tl0, _, step ?_ _ ?_⟩
      · rw [ek]
        exact atI_nat (j := k) hk
      · unfold isSg
        rw [decide_eq_true (show (32 : Int) ≤ ((32 + k : Nat) : Int) by omega), decide_eq_true (show ((32 + k : Nat) : Int) ≤ 126 by omega), decide_eq_false e2]
        simp
      · rw [Int.toNat_natCast]
        rfl
    · rintro σ H2 ⟨v3, rfl, rfl, sg⟩
      rw [List.length_map, List.take_length] at sg ⊢
      have ag : (codesOf b).all isSg = true := List.all_eq_true.mpr sg
      have ha2 := sqL_same S1 ha
      refine ⟨_, rfl, _, rfl, a, _, _, _, rfl, rfl, ha2, atI_blk hb (i := 5) (by decide), _, _, rfl, rfl, _, rfl, _, rfl, a, _, rfl, ha2, fun p2 np2 => ?_⟩
      rw [cutI, show cutA b (some (6 + gI b 5)) (some 31) = restOf b from rfl]
      have hp2 : upd H2 p2 (.lst ((restOf b).map V.int)) p2 = some (.lst ((restOf b).map V.int)) := upd_same
      have S2 := S1.trans (same_new (o := .lst ((restOf b).map V.int)) np2)
      generalize upd H2 p2 (.lst ((restOf b).map V.int)) = H3 at hp2 S2
      have rl : (restOf b).length ≤ 32 := by have := cutA_len b (some (6 + gI b 5)) (some 31); unfold restOf; omega
      refine ⟨p2, rfl, ⟨_, SqL.of hp2⟩, fun D nD => ?_⟩
      refine lc_list (K := K) (xs := (restOf b).map V.int) (fun j H' => Same H3 H' ∧ H' D = some (.lst ((nz ((restOf b).take j)).map V.int))) ⟨same_new nD, upd_same⟩ (fun j H' _ h => SqL.of (h.1 _ _ hp2)) ?_ ?_
      · rintro j x H4 hx ⟨S4, hD⟩
        obtain ⟨n, hn, rfl⟩ := map_at hx
        refine ⟨rfl, _, rfl, rfl, _, rfl, ite2 (fun e => ?_) (fun e => ?_)⟩
        · have e := bn e
          rw [dec_int] at e
          refine ⟨_, rfl, _, hD, ?_, same_upd S4 nD, ?_⟩
          · rw [List.length_map]
            have := List.length_filter_le (fun x => !decide (x = 0)) ((restOf b).take j)
            rw [List.length_take] at this
            unfold nz
            exact small_line (by omega)
          · rw [nz_take hn, if_neg (of_decide_eq_false e), List.map_append]
            exact upd_same
        · have e := bp e
          rw [dec_int] at e
          refine ⟨S4, ?_⟩
          rw [nz_take hn, if_pos (of_decide_eq_true e), List.append_nil]
          exact hD
      rintro H4 ⟨S4, hD⟩
      rw [List.length_map, List.take_length] at hD
      refine ⟨(by show 0 ≤ sizeLine; decide), fun u nu => ?_⟩
      refine ⟨_, .list [], .lst (SqL.of (same_new nu _ _ hD)) dpI, .lst (SqL.of upd_same) .nil, shaped_intsL _, by decide +kernel, ?_⟩
      have S5 := (S2.trans S4).trans (same_new (o := .lst []) nu)
      rw [eqv_nilL, show ((nz (restOf b)).map PyData.int).isEmpty = (nz (restOf b)).isEmpty from by cases nz (restOf b) <;> rfl, nz_zeros]
      refine ⟨_, rfl, ite2 (fun c5 => ?_) (fun c5 => ?_)⟩
      · exact no _ S5 (by unfold isPiece; rw [bn c5, Bool.and_false])
      have c5 := bp c5
      have ha3 := sqL_same S5 ha
      have hpc : isPiece b = true := by
        unfold isPiece
        rw [mk, ag, c5, k1, k2]
        rfl
      refine ⟨_, rfl, a, _, _, _, rfl, rfl, ha3, atI_blk hb (i := 1) (by decide), _, rfl, a, _, _, _, rfl, rfl, ha3, atI_blk hb (i := 2) (by decide),
        _, rfl, a, _, _, _, rfl, rfl, ha3, atI_blk hb (i := 3) (by decide), _, _, rfl, rfl, .inl ⟨by decide, by decide⟩, _, rfl, a, _, _, _, rfl, rfl, ha3, atI_blk hb (i := 4) (by decide), _, _, rfl, rfl, _, rfl, (by show 4 ≤ sizeLine; decide), fun v nv => ?_⟩
      refine q _ _ (S5.trans (same_new nv)) ?_
      unfold pieceD
      rw [if_pos hpc]
      exact .tup (SqT.of upd_same) (.cons (.int _) (.cons (.int _) (.cons (.int _) (.cons (.str _) .nil))))
end
end LB

set_option maxRecDepth 100000
set_option maxHeartbeats 8000000
namespace LB
open PySem PySem.Spec PyProof.Rows L2 TL
theorem txt_ok {cs : List Int} (h : ∀ x ∈ cs, x ≤ 255) : PyData.strOk (txtOf cs) = true := by
  show (txtOf cs).cps.all (· < 0x110000) = true
  rw [← Array.all_toList]
  refine List.all_eq_true.mpr fun c hc => ?_
  have hc : c ∈ cs.map Int.toNat := by
    have e : (txtOf cs).cps.toList = cs.map Int.toNat := tl_ofL _
    rw [e] at hc
    exact hc
  obtain ⟨x, hx, rfl⟩ := List.mem_map.mp hc
  have := h x hx
  exact decide_eq_true (by omega)
theorem codes_le {b : List Int} (h : Blk b) : ∀ x ∈ codesOf b, x ≤ 255 := fun x hx => by
  unfold codesOf cutA at hx
  exact (h.2 x (List.mem_of_mem_drop (List.mem_of_mem_take hx))).2
theorem shaped_piece {b : List Int} (h : Blk b) : SeqAt.shaped (pieceD b) = true := by
  unfold pieceD
  split
  · show (PyData.canLay0 (.tuple [.int _, .int _, .int _, .str (txtOf (codesOf b))]) && _) = true
    have e : PyData.canLay0 (.tuple [.int (gI b 1), .int (gI b 2), .int (256 * gI b 3 + gI b 4), .str (txtOf (codesOf b))]) = true := by
      show (true && (true && (true && (PyData.strOk (txtOf (codesOf b)) && true)))) = true
      rw [txt_ok (codes_le h)]
      rfl
    rw [e]
    rfl
  · rfl
theorem shaped_head (b : List Int) : SeqAt.shaped (headD b) = true := by
  unfold headD
  split <;> rfl
theorem eqv_self {d : PyData} (h : SeqAt.shaped d = true) : PyData.eqv d d = true := SeqAt.eqv_refl _ (SeqAt.canLay_of_shaped h)
section
variable {P : Program} {w : World} {K : PySem.W.Frag} {mg : Str → Option Value} {base : Heap}
def spRead1 (K : PySem.W.Frag) : Sp := fun vs H Q _ => ∃ (a : Addr) (b : List Int), vs = [.ref a] ∧ SqL K H a (b.map V.int) ∧ Blk b ∧ ∀ H', Same H H' → Q (.bl true) H'
theorem scRd : FnScope ["block", "handed"] ["block"] (defScope sRead) := ⟨rfl, rfl, rfl, by decide +kernel, rfl, by decide +kernel, by decide +kernel⟩
theorem ok_read1 {f fP fH fE fG : Addr} {fd fdP fdH fdE fdG : FuncData} (F : Fun K "_law_read" "_law_read" sRead f fd) (M : NamesW mg)
    (GP : FnOk P w K mg base CX0 2 fP fdP ["block"] (spDecP K)) (mP : mg "decode_piece" = some (.ref fP)) (kP : PySem.W.keepIn K (.ref fP) = true) (bP : Binds K fdP ["block"] [])
    (GH : FnOk P w K mg base CX0 2 fH fdH ["block"] (spDecH K)) (mH : mg "decode_head" = some (.ref fH)) (kH : PySem.W.keepIn K (.ref fH) = true) (bH : Binds K fdH ["block"] [])
    (GE : FnOk P w K mg base CX0 1 fE fdE ["block"] (spDecP K)) (mE : mg "_law_due_piece" = some (.ref fE)) (kE : PySem.W.keepIn K (.ref fE) = true) (bE : Binds K fdE ["block"] [])
    (GG : FnOk P w K mg base CX0 1 fG fdG ["block"] (spDecH K)) (mG : mg "_law_due_head" = some (.ref fG)) (kG : PySem.W.keepIn K (.ref fG) = true) (bG : Binds K fdG ["block"] []) :
    FnOk P w K mg base CX0 3 f fd ["block"] (spRead1 K) := by
  refine F.ok scRd (fun vs H Q E h => ?_) (fun cdv A outer s H vs Q E hr h => ?_)
  · obtain ⟨a, b, rfl, _⟩ := h
    rfl
  · obtain ⟨a, b, rfl, ha, hb, q⟩ := h
    have nd := scRd.nd
    refine ⟨_, (pss_cons (ps_set (i := 1) nd rfl (Or.inl rfl) (pe_callTy call_list_of (by rfl) M.list (by decide +kernel) (pa_cons (pv 0) pa_nil)))
        (pss_cons (ps_if (PW.pt (pw_or (pt_cmpR (op_neD hr.units) (pe_call GP (hr.mono (by decide)) rfl mP kP bP .nil pass0 (pa_cons (pv 1) pa_nil)) (pe_call GE (hr.mono (by decide)) rfl mE kE bE .nil pass0 (pa_cons (pv 0) pa_nil)) (nomark _)) (pw_or1 (pt_cmpR (op_neD hr.units) (pe_call GH (hr.mono (by decide)) rfl mH kH bH .nil pass0 (pa_cons (pv 1) pa_nil)) (pe_call GG (hr.mono (by decide)) rfl mG kG bG .nil pass0 (pa_cons (pv 0) pa_nil)) (nomark _))))) (pss_one (ps_ret pe_bl)) pss_nil)
        (pss_one (ps_ret (pe_cmpR (op_eqD hr.units) (pv 1) (pv 0) (nomark _)))))), ?_⟩
    refine ⟨_, rfl, a, _, rfl, .inl ha, fun p np => ?_⟩
    have hp : upd H p (.lst (b.map V.int)) p = some (.lst (b.map V.int)) := upd_same
    have S1 := same_new (o := .lst (b.map V.int)) np
    generalize upd H p (.lst (b.map V.int)) = H1 at hp S1
    refine ⟨_, rfl, p, b, rfl, SqL.of hp, hb, fun v H2 S2 d2 => ?_⟩
    refine ⟨_, rfl, a, b, rfl, sqL_same (S1.trans S2) ha, hb, fun v3 H3 S3 d3 => ?_⟩
    refine ⟨_, _, dp_same S3 d2, d3, shaped_piece hb, shaped_piece hb, ?_⟩
    rw [eqv_self (shaped_piece hb)]
    refine ⟨_, rfl, iteF ?_⟩
    have S13 := S2.trans S3
    refine ⟨_, rfl, p, b, rfl, SqL.of (S13 _ _ hp), hb, fun v4 H4 S4 d4 => ?_⟩
    refine ⟨_, rfl, a, b, rfl, sqL_same ((S1.trans S13).trans S4) ha, hb, fun v5 H5 S5 d5 => ?_⟩
    refine ⟨_, _, dp_same S5 d4, d5, shaped_head b, shaped_head b, ?_⟩
    rw [eqv_self (shaped_head b)]
    refine ⟨_, rfl, iteF ?_⟩
    have S15 := (S13.trans S4).trans S5
    refine ⟨_, rfl, _, rfl, .list (b.map PyData.int), .list (b.map PyData.int), .lst (SqL.of (S15 _ _ hp)) dpI, .lst (sqL_same (S1.trans S15) ha) dpI, shaped_intsL b, shaped_intsL b, ?_⟩
    rw [eqv_self (shaped_intsL b)]
    exact q H5 (S1.trans S15)
/-! ### torn pieces -/
theorem blk_torn {b c : List Int} (hb : Blk b) (hc : Blk c) (m : Nat) (h : m ≤ 32) : Blk (b.take m ++ c.drop m) := by
  refine ⟨?_, fun x hx => ?_⟩
  · rw [List.length_append, List.length_take, List.length_drop, hb.1, hc.1]
    omega
  · rcases List.mem_append.mp hx with h | h
    · exact hb.2 x (List.mem_of_mem_take h)
    · exact hc.2 x (List.mem_of_mem_drop h)
abbrev zs32 : List Int := List.replicate 32 0
theorem blk_zeros : Blk zs32 := ⟨List.length_replicate, fun x hx => by rw [(List.mem_replicate.mp hx).2]; decide⟩
theorem torn_end {b : List Int} (hb : Blk b) (m : Nat) (h : m < 32) : isPiece (b.take m ++ zs32.drop m) = false := by
  have e : gI (b.take m ++ zs32.drop m) 31 = 0 := by
    unfold gI
    rw [List.getD_eq_getElem?_getD, List.getElem?_append_right (by rw [List.length_take, hb.1]; omega), List.length_take, hb.1, List.getElem?_drop]
    rw [show m + (31 - min m 32) = 31 by omega]
    rfl
  unfold isPiece marksOf
  rw [e]
  simp
theorem torn_start {b : List Int} (m : Nat) (h : 0 < m) : isPiece (zs32.take m ++ b.drop m) = false := by
  have e : gI (zs32.take m ++ b.drop m) 0 = 0 := by
    obtain ⟨k, rfl⟩ : ∃ k, m = k + 1 := ⟨m - 1, by omega⟩
    rfl
  unfold isPiece marksOf
  rw [e]
  rfl
theorem dp_none {K : PySem.W.Frag} {H : Hp} {v : V} {b : List Int} (h : Dp K H v (pieceD b)) : decide (v = V.non) = !isPiece b := by
  unfold pieceD at h
  by_cases e : isPiece b = true
  · rw [if_pos e] at h
    rw [e]
    cases h
    rfl
  · rw [if_neg e] at h
    rw [Bool.eq_false_iff.mpr e]
    cases h
    rfl
def spTorn1 (K : PySem.W.Frag) : Sp := fun vs H Q _ => ∃ (a : Addr) (b : List Int), vs = [.ref a] ∧ SqL K H a (b.map V.int) ∧ Blk b ∧ isPiece b = true ∧ ∀ H', Same H H' → Q (.bl true) H'
theorem scTn : FnScope ["block", "zeros", "many"] ["block"] (defScope sTorn) := ⟨rfl, rfl, rfl, by decide +kernel, rfl, by decide +kernel, by decide +kernel⟩
theorem ok_torn1 {f fP : Addr} {fd fdP : FuncData} (F : Fun K "_law_torn" "_law_torn" sTorn f fd) (M : NamesW mg)
    (GP : FnOk P w K mg base CX0 2 fP fdP ["block"] (spDecP K)) (mP : mg "decode_piece" = some (.ref fP)) (kP : PySem.W.keepIn K (.ref fP) = true) (bP : Binds K fdP ["block"] []) :
    FnOk P w K mg base CX0 3 f fd ["block"] (spTorn1 K) := by
  refine F.ok scTn (fun vs H Q E h => ?_) (fun cdv A outer s H vs Q E hr h => ?_)
  · obtain ⟨a, b, rfl, _⟩ := h
    rfl
  · obtain ⟨a, b, rfl, ha, hb, pc, q⟩ := h
    have nd := scTn.nd
    refine ⟨_, (pss_cons (ps_set (i := 1) nd rfl (Or.inl rfl) (pe_op op_rep (pe_lst (pa_cons pe_int pa_nil)) pe_int))
        (pss_cons (ps_for PassesOwn.never rfl (pi_range1 (by rfl) M.range (pa_cons pe_int pa_nil)) (pg_name (i := 2) nd rfl (Or.inl rfl)) (pss_cons (ps_if (pt_cmpR op_ne (pe_cmpR op_isN (pe_call GP (hr.mono (by decide)) rfl mP kP bP .nil pass0 (pa_cons (pe_op op_cat (pe_slice sl_list (pv 0) po_none (po_some (pv 2))) (pe_slice sl_list (pv 1) (po_some (pv 2)) po_none)) pa_nil)) pe_non (nomark _)) (pe_cmpR op_lt (pv 2) pe_int (nomark _)) (nomark _)) (pss_one (ps_ret pe_bl)) pss_nil)
        (pss_one (ps_if (pt_cmpR op_ne (pe_cmpR op_isN (pe_call GP (hr.mono (by decide)) rfl mP kP bP .nil pass0 (pa_cons (pe_op op_cat (pe_slice sl_list (pv 1) po_none (po_some (pv 2))) (pe_slice sl_list (pv 0) (po_some (pv 2)) po_none)) pa_nil)) pe_non (nomark _)) (pe_cmpR op_gt (pv 2) pe_int (nomark _)) (nomark _)) (pss_one (ps_ret pe_bl)) pss_nil))))
        (pss_one (ps_ret pe_bl)))), ?_⟩
    refine ⟨(by show 1 ≤ sizeLine; decide), fun p0 np0 => ?_⟩
    refine ⟨p0, 32, _, rfl, rfl, upd_same, by decide, by decide, by decide, fun z nz => ?_⟩
    rw [show ((32 : Int)).toNat = 32 from rfl, rep_flat]
    have hz : upd (upd H p0 (.lst [V.int 0])) z (.lst (zs32.map V.int)) z = some (.lst (zs32.map V.int)) := upd_same
    have S1 := (same_new (o := .lst [V.int 0]) np0).trans (same_new (o := .lst (zs32.map V.int)) nz)
    generalize upd (upd H p0 (.lst [V.int 0])) z (.lst (zs32.map V.int)) = H1 at hz S1
    have ha1 := sqL_same S1 ha
    refine ⟨33, rfl, by decide, by decide, for_range (n := 33) (fun m σ H' => ∃ v2 : Option V, σ = [some (.ref a), some (.ref z), v2] ∧ Same H1 H') ⟨_, rfl, Same.refl _⟩ ?_ ?_⟩
    · rintro m σ H2 hm ⟨v2, rfl, S2⟩
      rw [Int.zero_add]
      refine ⟨_, rfl, _, rfl, _, rfl, a, _, rfl, sqL_same S2 ha1, fun p1 np1 => ?_⟩
      have hm32 : m ≤ b.length := by rw [hb.1]; omega
      have hz32 : m ≤ zs32.length := by show m ≤ 32; omega
      rw [cutI, cutA_head b m hm32]
      have X1 := same_new (o := .lst ((b.take m).map V.int)) np1
      have h1 : upd H2 p1 (.lst ((b.take m).map V.int)) p1 = some (.lst ((b.take m).map V.int)) := upd_same
      generalize upd H2 p1 (.lst ((b.take m).map V.int)) = H3 at X1 h1
      refine ⟨_, rfl, _, rfl, _, rfl, z, _, rfl, SqL.of (X1 _ _ (S2 _ _ hz)), fun p2 np2 => ?_⟩
      rw [cutI, cutA_tail zs32 m hz32]
      refine ⟨p1, p2, _, _, rfl, rfl, same_new np2 _ _ h1, upd_same, ?_, fun p3 np3 => ?_⟩
      · rw [List.length_map, List.length_map, List.length_take, List.length_drop, hb.1]
        exact Nat.le_trans (m := 64) (by rw [show zs32.length = 32 from rfl]; omega) (by decide)
      rw [← List.map_append]
      have X3 := (X1.trans (same_new (o := .lst ((zs32.drop m).map V.int)) np2)).trans (same_new (o := .lst ((b.take m ++ zs32.drop m).map V.int)) np3)
      refine ⟨p3, _, rfl, SqL.of upd_same, blk_torn hb blk_zeros m (by omega), fun v H4 S4 d4 => ⟨rfl, ?_⟩⟩
      have S4 := S2.trans (X3.trans S4)
      refine ⟨_, rfl, _, _, rfl, rfl, rfl, _, rfl, ?_⟩
      have e1 : decide (v = V.non) = decide ((m : Int) < 32) := by
        rw [dp_none d4]
        by_cases h : m < 32
        · rw [torn_end hb m h, decide_eq_true (by omega)]
          rfl
        · have em : m = 32 := by omega
          subst em
          rw [List.take_of_length_le (by rw [hb.1]; exact Nat.le_refl _), List.drop_of_length_le (Nat.le_refl 32), List.append_nil, pc]
          rfl
      rw [e1]
      refine ite2 (fun c => absurd (bn c) (by simp)) (fun _ => ?_)
      refine ⟨_, rfl, _, rfl, _, rfl, z, _, rfl, SqL.of (S4 _ _ hz), fun p5 np5 => ?_⟩
      rw [cutI, cutA_head zs32 m hz32]
      have X5 := same_new (o := .lst ((zs32.take m).map V.int)) np5
      have h5 : upd H4 p5 (.lst ((zs32.take m).map V.int)) p5 = some (.lst ((zs32.take m).map V.int)) := upd_same
      generalize upd H4 p5 (.lst ((zs32.take m).map V.int)) = H5 at X5 h5
      refine ⟨_, rfl, _, rfl, _, rfl, a, _, rfl, sqL_same (S4.trans X5) ha1, fun p6 np6 => ?_⟩
      rw [cutI, cutA_tail b m hm32]
      refine ⟨p5, p6, _, _, rfl, rfl, same_new np6 _ _ h5, upd_same, ?_, fun p7 np7 => ?_⟩
      · rw [List.length_map, List.length_map, List.length_take, List.length_drop, hb.1]
        exact Nat.le_trans (m := 64) (by rw [show zs32.length = 32 from rfl]; omega) (by decide)
      rw [← List.map_append]
      have X7 := (X5.trans (same_new (o := .lst ((b.drop m).map V.int)) np6)).trans (same_new (o := .lst ((zs32.take m ++ b.drop m).map V.int)) np7)
      refine ⟨p7, _, rfl, SqL.of upd_same, blk_torn blk_zeros hb m (by omega), fun v2 H8 S8 d8 => ⟨rfl, ?_⟩⟩
      have S8 := S4.trans (X7.trans S8)
      refine ⟨_, rfl, _, _, rfl, rfl, rfl, _, rfl, ?_⟩
      have e2 : decide (v2 = V.non) = decide ((0 : Int) < (m : Int)) := by
        rw [dp_none d8]
        by_cases h : 0 < m
        · rw [torn_start m h, decide_eq_true (by omega)]
          rfl
        · have em : m = 0 := by omega
          subst em
          rw [List.take_zero, List.drop_zero, List.nil_append, pc]
          rfl
      rw [e2]
      exact ite2 (fun c => absurd (bn c) (by simp)) (fun _ => ⟨_, rfl, S8⟩)
    · rintro σ H2 ⟨v2, rfl, S2⟩
      exact q H2 (S1.trans S2)
end
end LB

set_option maxRecDepth 100000
set_option maxHeartbeats 8000000
namespace LB
open PySem PySem.Spec PyProof.Rows L2 TL
def spLaw (K : PySem.W.Frag) : Sp := fun vs H Q _ => ∃ (a : Addr) (ns : List Int), vs = [.ref a] ∧ SqL K H a (ns.map V.int) ∧ ∀ H', Q (.bl true) H'
structure Defs (K : PySem.W.Frag) (mg : Str → Option Value) (base : Heap) (P : Program) (w : World) : Prop where
  D : ∃ f fd, FnOk P w K mg base CX0 1 f fd ["box", "many"] (spDraw K) ∧ mg "_law_draw" = some (.ref f) ∧ PySem.W.keepIn K (.ref f) = true ∧ Binds K fd ["box", "many"] []
  G : ∃ f fd, FnOk P w K mg base CX0 2 f fd ["script", "first", "last"] (spDigits K) ∧ mg "_law_digits" = some (.ref f) ∧ PySem.W.keepIn K (.ref f) = true ∧ Binds K fd ["script", "first", "last"] []
  Pi : ∃ f fd, FnOk P w K mg base CX0 1 f fd ["number", "text"] (spPieces K) ∧ mg "_law_pieces" = some (.ref f) ∧ PySem.W.keepIn K (.ref f) = true ∧ Binds K fd ["number", "text"] []
  S : ∃ f fd, FnOk P w K mg base CX0 2 f fd ["box", "many"] (spStored K) ∧ mg "_law_stored_text" = some (.ref f) ∧ PySem.W.keepIn K (.ref f) = true ∧ Binds K fd ["box", "many"] []
  R : ∃ f fd, FnOk P w K mg base CX0 3 f fd ["block"] (spRead1 K) ∧ mg "_law_read" = some (.ref f) ∧ PySem.W.keepIn K (.ref f) = true ∧ Binds K fd ["block"] []
  T : ∃ f fd, FnOk P w K mg base CX0 3 f fd ["block"] (spTorn1 K) ∧ mg "_law_torn" = some (.ref f) ∧ PySem.W.keepIn K (.ref f) = true ∧ Binds K fd ["block"] []
  names : NamesW mg
theorem blk_set {b : List Int} (hb : Blk b) (j : Nat) {x : Int} (h : 0 ≤ x ∧ x ≤ 255) : Blk (b.set j x) := by
  refine ⟨by rw [List.length_set]; exact hb.1, fun y hy => ?_⟩
  rcases List.mem_or_eq_of_mem_set hy with h1 | h1
  · exact hb.2 y h1
  · rw [h1]; exact h
theorem ixN_at {n j : Nat} (h : j < n) : ixN n (j : Int) = some j := by
  unfold ixN
  rw [if_pos (Int.natCast_nonneg j), if_pos (by omega), Int.toNat_natCast]
theorem But.offNone {b : Addr} {H H' : Hp} {p : Addr} (B : Box H b) (U : But b H H') (n : H' p = none) : H p = none := by
  by_cases e : p = b
  · obtain ⟨l, ds, k, h, _⟩ := B
    obtain ⟨k', h'⟩ := U.d l k h
    rw [e, h'] at n
    cases n
  · cases h : H p with
    | none => rfl
    | some o => rw [U.k p o e h] at n; cases n
def headOf (x y : Int) : List Int := [72, x, y] ++ List.replicate 28 0 ++ [72]
theorem head_blk {x y : Int} (hx : 0 ≤ x ∧ x ≤ 255) (hy : 0 ≤ y ∧ y ≤ 255) : Blk (headOf x y) := by
  refine ⟨rfl, fun v hv => ?_⟩
  unfold headOf at hv
  simp only [List.mem_append, List.mem_cons, List.mem_replicate, List.not_mem_nil, or_false] at hv
  omega
theorem getD_all {l : List Int} {p : Int → Prop} (h : ∀ v ∈ l, p v) {i : Nat} (hi : i < l.length) : p (l.getD i 0) := by
  rw [List.getD_eq_getElem?_getD, List.getElem?_eq_getElem hi]
  exact h _ (List.getElem_mem hi)
theorem map_set {b : List Int} {j : Nat} {x : Int} : (b.map V.int).set j (.int x) = (b.set j x).map V.int := by rw [List.map_set]
theorem many_small {cs : List Nat} (h : cs.length ≤ 200) : manyOf cs ≤ 10 := by unfold manyOf; omega
section
variable {P : Program} {w : World} {K : PySem.W.Frag} {mg : Str → Option Value} {base : Heap}
theorem scLaw : FnScope ["script", "box", "turn", "number", "rows", "block", "step", "head", "other", "k"] ["script"] (defScope sLaw) := ⟨rfl, rfl, rfl, by decide +kernel, rfl, by decide +kernel, by decide +kernel⟩
theorem ok_law {f : Addr} {fd : FuncData} (F : Fun K "law" "law" sLaw f fd) (T : Defs K mg base P w) : FnG P w K mg base CX0 4 f fd ["script"] (spLaw K) := by
  obtain ⟨_, _, GD, mD, kD, bD⟩ := T.D
  obtain ⟨_, _, GG, mG, kG, bG⟩ := T.G
  obtain ⟨_, _, GP, mP, kP, bP⟩ := T.Pi
  obtain ⟨_, _, GS, mS, kS, bS⟩ := T.S
  obtain ⟨_, _, GR, mR, kR, bR⟩ := T.R
  obtain ⟨_, _, GT, mT, kT, bT⟩ := T.T
  have M := T.names
  refine FnG.of_fun F scLaw (fun vs H Q E h => ?_) (fun cdv A outer s H vs Q E gf hr h => ?_)
  · obtain ⟨a, ns, rfl, _⟩ := h
    rfl
  · obtain ⟨a, ns, rfl, hS, q⟩ := h
    have nd := scLaw.nd
    refine ⟨_, (pss_cons (ps_set (i := 1) nd rfl (Or.inr rfl) (pe_lst (pa_cons (pe_call GG (hr.mono (by decide)) rfl mG kG bG .nil pass0 (pa_cons (pv 0) (pa_cons pe_int (pa_cons pe_int pa_nil)))) (pa_cons pe_int pa_nil))))
        (pss_cons (ps_for PassesOwn.never rfl (pi_range1 (by rfl) M.range (pa_cons pe_int pa_nil)) (pg_name (i := 2) nd rfl (Or.inl rfl)) (pss_cons (ps_set (i := 3) nd rfl (Or.inl rfl) (pe_op op_mod (pe_callTy call_int1 (by rfl) M.int (by decide +kernel) (pa_cons (pe_op op_add (pe_op op_mul (pe_call GD (hr.mono (by decide)) rfl mD kD bD .nil pass0 (pa_cons (pv 1) (pa_cons pe_int pa_nil))) pe_int) (pe_call GD (hr.mono (by decide)) rfl mD kD bD .nil pass0 (pa_cons (pv 1) (pa_cons pe_int pa_nil)))) pa_nil)) pe_int))
        (pss_cons (ps_set (i := 4) nd rfl (Or.inl rfl) (pe_call GP (hr.mono (by decide)) rfl mP kP bP .nil pass0 (pa_cons (pv 3) (pa_cons (pe_call GS (hr.mono (by decide)) rfl mS kS bS .nil pass0 (pa_cons (pv 1) (pa_cons (pe_call GD (hr.mono (by decide)) rfl mD kD bD .nil pass0 (pa_cons (pv 1) (pa_cons pe_int pa_nil))) pa_nil))) pa_nil))))
        (pss_cons (ps_set (i := 5) nd rfl (Or.inl rfl) (pe_ix ix_list (pv 4) (pe_call GD (hr.mono (by decide)) rfl mD kD bD .nil pass0 (pa_cons (pv 1) (pa_cons (pe_callB call_len_seq (by rfl) M.len PySem.boot_len (pa_cons (pv 4) pa_nil)) pa_nil))) (fun _ _ => rfl)))
        (pss_cons (ps_if (pt_not (pt_val (pe_call GT (hr.mono (by decide)) rfl mT kT bT .nil pass0 (pa_cons (pv 5) pa_nil)))) (pss_one (ps_ret pe_bl)) pss_nil)
        (pss_cons (ps_for PassesOwn.never rfl (pi_range1 (by rfl) M.range (pa_cons (pe_call GD (hr.mono (by decide)) rfl mD kD bD .nil pass0 (pa_cons (pv 1) (pa_cons pe_int pa_nil))) pa_nil)) (pg_name (i := 6) nd rfl (Or.inl rfl)) (pss_one (ps_asg (pe_ix ix_list (pe_lst (pa_cons pe_int (pa_cons pe_int (pa_cons pe_int (pa_cons pe_int (pa_cons pe_int (pa_cons pe_int (pa_cons pe_int (pa_cons pe_int (pa_cons pe_int (pa_cons pe_int (pa_cons (pe_call GD (hr.mono (by decide)) rfl mD kD bD .nil pass0 (pa_cons (pv 1) (pa_cons pe_int pa_nil))) pa_nil)))))))))))) (pe_call GD (hr.mono (by decide)) rfl mD kD bD .nil pass0 (pa_cons (pv 1) (pa_cons pe_int pa_nil))) (fun _ _ => rfl)) (pg_sub (pv 5) (pe_call GD (hr.mono (by decide)) rfl mD kD bD .nil pass0 (pa_cons (pv 1) (pa_cons pe_int pa_nil))) set_list))))
        (pss_cons (ps_set (i := 7) nd rfl (Or.inl rfl) (pe_op op_cat (pe_op op_cat (pe_lst (pa_cons pe_int (pa_cons (pe_call GD (hr.mono (by decide)) rfl mD kD bD .nil pass0 (pa_cons (pv 1) (pa_cons pe_int pa_nil))) (pa_cons (pe_call GD (hr.mono (by decide)) rfl mD kD bD .nil pass0 (pa_cons (pv 1) (pa_cons pe_int pa_nil))) pa_nil)))) (pe_op op_rep (pe_lst (pa_cons pe_int pa_nil)) pe_int)) (pe_lst (pa_cons pe_int pa_nil))))
        (pss_cons (ps_if (PW.pt (pw_or (pt_not (pt_val (pe_call GR (hr.mono (by decide)) rfl mR kR bR .nil pass0 (pa_cons (pv 5) pa_nil)))) (pw_or1 (pt_not (pt_val (pe_call GR (hr.mono (by decide)) rfl mR kR bR .nil pass0 (pa_cons (pv 7) pa_nil))))))) (pss_one (ps_ret pe_bl)) pss_nil)
        (pss_cons (ps_asg (pe_call GD (hr.mono (by decide)) rfl mD kD bD .nil pass0 (pa_cons (pv 1) (pa_cons pe_int pa_nil))) (pg_sub (pv 7) (pe_call GD (hr.mono (by decide)) rfl mD kD bD .nil pass0 (pa_cons (pv 1) (pa_cons pe_int pa_nil))) set_list))
        (pss_cons (ps_setLc (i := 8) (own := [("k", 9)]) (g := (gName 9)) rfl nd rfl rfl (sw_true rfl rfl rfl (by decide +kernel)) (pi_range1 (by rfl) M.range (pa_cons pe_int pa_nil)) (blkOk_by (N := ["script", "box", "turn", "number", "rows", "block", "step", "head", "other", "k"]) (sc := (defScope sLaw)) (by decide +kernel)) (fun _ _ _ _ _ => (pg_name (i := 9) nd rfl (Or.inl rfl))) (fun _ _ _ _ _ => pts_nil) (fun _ _ _ _ _ => (pe_call GD (hr.mono (by decide)) rfl mD kD bD .nil pass0 (pa_cons (pv 1) (pa_cons pe_int pa_nil)))))
        (pss_cons (ps_asg (pe_ix ix_list (pe_lst (pa_cons pe_int (pa_cons pe_int pa_nil))) (pe_call GD (hr.mono (by decide)) rfl mD kD bD .nil pass0 (pa_cons (pv 1) (pa_cons pe_int pa_nil))) (fun _ _ => rfl)) (pg_sub (pv 8) pe_int set_list))
        (pss_cons (ps_asg (pe_ix ix_list (pv 8) pe_int (fun _ _ => rfl)) (pg_sub (pv 8) pe_int set_list))
        (pss_one (ps_if (PW.pt (pw_or (pt_not (pt_val (pe_call GR (hr.mono (by decide)) rfl mR kR bR .nil pass0 (pa_cons (pv 7) pa_nil)))) (pw_or1 (pt_not (pt_val (pe_call GR (hr.mono (by decide)) rfl mR kR bR .nil pass0 (pa_cons (pv 8) pa_nil))))))) (pss_one (ps_ret pe_bl)) pss_nil))))))))))))))
        (pss_one (ps_ret (pe_call GR (hr.mono (by decide)) rfl mR kR bR .nil pass0 (pa_cons (pe_op op_rep (pe_lst (pa_cons pe_int pa_nil)) pe_int) pa_nil)))))), ?_⟩
    refine ⟨_, rfl, a, ns, 0, 63, rfl, hS, by decide, by decide, by decide, fun ds H1 l s1 nl hl hd hlen => ⟨(by show 2 ≤ sizeLine; decide), fun b nb => ?_⟩⟩
    have B0 : Box (upd H1 b (.lst [.ref l, .int 0])) b := ⟨l, ds, 0, upd_same, by rw [upd_ne (ne_of_none hl nb)]; exact hl, (ne_of_none hl nb).symm, by decide, hlen⟩
    refine ⟨10, rfl, by decide, by decide, for_range (n := 10) (fun m σ H' => ∃ v2 v3 v4 v5 v6 v7 v8 : Option V, σ = [some (.ref a), some (.ref b), v2, v3, v4, v5, v6, v7, v8, none] ∧ Box H' b)
      ⟨none, none, none, none, none, none, none, rfl, B0⟩ ?_ ?_⟩
    · rintro m σ H0 hm ⟨v2, v3, v4, v5, v6, v7, v8, rfl, B0⟩
      refine ⟨_, rfl, b, 66, rfl, B0, by decide, fun r1 H2 r10 r11 B2 U2 => ⟨_, _, rfl, rfl, .inr ⟨by decide, by decide⟩, _, rfl, b, 1000, rfl, B2, by decide, fun r2 H3 r20 r21 B3 U3 => ⟨_, _, rfl, rfl, .inl ⟨_, rfl, _, _, rfl, rfl, (by show (0 : Int) < 65536; decide), ?_⟩⟩⟩⟩
      have n0 : 0 ≤ (r1 * 1000 + r2) % 65536 := Int.emod_nonneg _ (by decide)
      have n1 : (r1 * 1000 + r2) % 65536 < 65536 := Int.emod_lt_of_pos _ (by decide)
      refine ⟨_, rfl, _, rfl, _, rfl, b, 60, rfl, B3, by decide, fun r3 H4 r30 r31 B4 U4 => ⟨b, r3, rfl, B4, r30, by omega, fun cs H5 cl sg B5 U5 => ?_⟩⟩
      have cl2 : cs.length ≤ 200 := by omega
      have ms := many_small cl2
      refine ⟨((r1 * 1000 + r2) % 65536), cs, rfl, n0, n1, cl2, fun D rs H6 S6 nD hD rl hrs => ?_⟩
      have B6 := B5.same S6
      have mpos : 1 ≤ manyOf cs := by unfold manyOf; exact Nat.le_max_left ..
      refine ⟨_, rfl, _, rfl, _, rfl, D, _, rfl, .inl (SqL.of hD), b, _, rfl, B6, by rw [List.length_map, rl]; omega, fun i H7 i0 i1 B7 U7 => ?_⟩
      rw [List.length_map, rl] at i1
      obtain ⟨k, rfl⟩ : ∃ k : Nat, i = (k : Int) := ⟨i.toNat, by omega⟩
      have hk : k < rs.length := by omega
      have hr' := List.getElem?_eq_getElem hk
      generalize rs[k] = r at hr'
      obtain ⟨nr, hr6⟩ := hrs k r hr'
      have Db : D ≠ b := B5.apart nD
      have rb : r ≠ b := B5.apart nr
      have hD7 := U7.k D _ Db hD
      have hr7 := U7.k r _ rb hr6
      have U57 : But b H5 H7 := (But.of S6).trans U7
      refine ⟨D, _, _, _, rfl, rfl, SqL.of hD7, atI_nat (j := k) (by rw [List.getElem?_map, hr']; rfl), ?_⟩
      have hb := row_blk (n := ((r1 * 1000 + r2) % 65536)) (cs := cs) (k := k) ⟨n0, n1⟩ sg (by omega) (by omega)
      refine ⟨_, rfl, r, _, rfl, SqL.of hr7, hb, row_piece sg (by omega), fun H8 S8 => ⟨_, rfl, iteF ?_⟩⟩
      have B8 := B7.same S8
      have U58 := U57.trans (But.of S8)
      have hr8 := S8 _ _ hr7
      refine ⟨_, rfl, b, 3, rfl, B8, by decide, fun t3 H9 t30 t31 B9 U9 => ⟨_, rfl, by omega, by omega, ?_⟩⟩
      refine for_range (n := t3.toNat) (fun j σ H' => ∃ (bb : List Int) (v6 : Option V), σ = [some (.ref a), some (.ref b), some (.int (0 + (m : Int))), some (.int ((r1 * 1000 + r2) % 65536)), some (.ref D), some (.ref r), v6, v7, v8, none] ∧ Blk bb ∧ H' r = some (.lst (bb.map V.int)) ∧ Box H' b ∧ But b H5 H')
        ⟨_, _, rfl, hb, U9.k r _ rb hr8, B9, U58.trans U9⟩ ?_ ?_
      · rintro j σ H10 hj ⟨bb, v6, rfl, hbb, hr10, B10, U10⟩
        refine ⟨_, rfl, b, 256, rfl, B10, by decide, fun x H11 x0 x1 B11 U11 => ⟨(by show 11 ≤ sizeLine; decide), fun l2 nl2 => ?_⟩⟩
        refine ⟨_, rfl, b, 11, rfl, B11.new nl2, by decide, fun y H12 y0 y1 B12 U12 => ?_⟩
        have hl2 := B11.keepL nl2 U12
        obtain ⟨k2, rfl⟩ : ∃ k : Nat, y = (k : Int) := ⟨y.toNat, by omega⟩
        have el : ∃ xv : Int, atI [V.int 0, .int 10, .int 24, .int 32, .int 37, .int 72, .int 74, .int 83, .int 126, .int 255, .int x] (k2 : Int) = some (.int xv) ∧ 0 ≤ xv ∧ xv ≤ 255 := by
          have mem : ∀ v ∈ [(0 : Int), 10, 24, 32, 37, 72, 74, 83, 126, 255, x], 0 ≤ v ∧ v ≤ 255 := fun v hv => by
            simp only [List.mem_cons, List.not_mem_nil, or_false] at hv
            omega
          exact ⟨[(0 : Int), 10, 24, 32, 37, 72, 74, 83, 126, 255, x].getD k2 0, atI_get (b := [(0 : Int), 10, 24, 32, 37, 72, 74, 83, 126, 255, x]) (show k2 < 11 by omega), getD_all mem (show k2 < 11 by omega)⟩
        obtain ⟨xv, exv, xv0, xv1⟩ := el
        refine ⟨l2, _, _, _, rfl, rfl, SqL.of hl2, exv, ?_⟩
        have U12' : But b H5 H12 := ((U10.trans U11).new (o := .lst [V.int 0, .int 10, .int 24, .int 32, .int 37, .int 72, .int 74, .int 83, .int 126, .int 255, .int x]) nl2).trans U12
        have hr12 : H12 r = some (.lst (bb.map V.int)) := ((U11.new (o := .lst [V.int 0, .int 10, .int 24, .int 32, .int 37, .int 72, .int 74, .int 83, .int 126, .int 255, .int x]) nl2).trans U12).k r _ rb hr10
        refine ⟨_, rfl, _, rfl, b, 32, rfl, B12, by decide, fun z H13 z0 z1 B13 U13 => ?_⟩
        obtain ⟨k3, rfl⟩ : ∃ k : Nat, z = (k : Int) := ⟨z.toNat, by omega⟩
        have hr13 := U13.k r _ rb hr12
        refine ⟨r, _, _, k3, rfl, rfl, hr13, ?_, bb.set k3 xv, _, rfl, blk_set hbb k3 ⟨xv0, xv1⟩, upd_same.trans (by rw [map_set]), (Box.put B5 B13 (U12'.trans U13) nr).1, (Box.put B5 B13 (U12'.trans U13) nr).2⟩
        exact ixN_at (by rw [List.length_map, hbb.1]; omega)
      rintro σ H10 ⟨bb, v6, rfl, hbb, hr10, B10, U10⟩
      refine ⟨_, rfl, b, 6, rfl, B10, by decide, fun x1 H11 x10 x11 B11 U11 => ⟨_, rfl, b, 256, rfl, B11, by decide, fun y1 H12 y10 y11 B12 U12 => ⟨(by show 3 ≤ sizeLine; decide), fun p1 np1 => ?_⟩⟩⟩
      have hr12 := (U11.trans U12).k r _ rb hr10
      have U12 := (U10.trans U11).trans U12
      have X1 := same_new (o := .lst [V.int 72, .int x1, .int y1]) np1
      refine ⟨(by show 1 ≤ sizeLine; decide), fun p2 np2 => ⟨p2, 28, _, rfl, rfl, upd_same, by decide, by decide, by decide, fun p3 np3 => ?_⟩⟩
      rw [show ((28 : Int)).toNat = 28 from rfl, rep_flat]
      have X2 := same_new (o := .lst [V.int 0]) np2
      have X3 := same_new (o := .lst ((List.replicate 28 (0 : Int)).map V.int)) np3
      refine ⟨p1, p3, _, _, rfl, rfl, (X2.trans X3) _ _ upd_same, upd_same, (show 3 + 28 ≤ sizeLine by decide), fun p4 np4 => ?_⟩
      have e4 : [V.int 72, .int x1, .int y1] ++ (List.replicate 28 (0 : Int)).map V.int = ([72, x1, y1] ++ List.replicate 28 (0 : Int)).map V.int := rfl
      rw [e4]
      have X4 := ((X1.trans X2).trans X3).trans (same_new (o := .lst (([72, x1, y1] ++ List.replicate 28 (0 : Int)).map V.int)) np4)
      have h4 : upd (upd (upd (upd H12 p1 (.lst [V.int 72, .int x1, .int y1])) p2 (.lst [V.int 0])) p3 (.lst ((List.replicate 28 (0 : Int)).map V.int))) p4 (.lst (([72, x1, y1] ++ List.replicate 28 (0 : Int)).map V.int)) p4 = some (.lst (([72, x1, y1] ++ List.replicate 28 (0 : Int)).map V.int)) := upd_same
      generalize upd (upd (upd (upd H12 p1 (.lst [V.int 72, .int x1, .int y1])) p2 (.lst [V.int 0])) p3 (.lst ((List.replicate 28 (0 : Int)).map V.int))) p4 (.lst (([72, x1, y1] ++ List.replicate 28 (0 : Int)).map V.int)) = H13 at X4 h4
      refine ⟨(by show 1 ≤ sizeLine; decide), fun p5 np5 => ?_⟩
      have X5 := same_new (o := .lst [V.int 72]) np5
      refine ⟨p4, p5, _, _, rfl, rfl, X5 _ _ h4, upd_same, (show 31 + 1 ≤ sizeLine by decide), fun hh nh => ?_⟩
      have e5 : ([72, x1, y1] ++ List.replicate 28 (0 : Int)).map V.int ++ [V.int 72] = (headOf x1 y1).map V.int := rfl
      rw [e5]
      have X6 := (X4.trans X5).trans (same_new (o := .lst ((headOf x1 y1).map V.int)) nh)
      have h6 : upd (upd H13 p5 (.lst [V.int 72])) hh (.lst ((headOf x1 y1).map V.int)) hh = some (.lst ((headOf x1 y1).map V.int)) := upd_same
      have nh12 : H12 hh = none := same_none (X4.trans X5) nh
      generalize upd (upd H13 p5 (.lst [V.int 72])) hh (.lst ((headOf x1 y1).map V.int)) = H14 at X6 h6
      have B14 := B12.same X6
      have U14 := U12.trans (But.of X6)
      have nh5 : H5 hh = none := But.offNone B5 U12 nh12
      have hbh : Blk (headOf x1 y1) := head_blk ⟨x10, by omega⟩ ⟨y10, by omega⟩
      refine ⟨_, rfl, r, bb, rfl, SqL.of (X6 _ _ hr12), hbb, fun H15 S15 => ⟨_, rfl, iteF ⟨_, rfl, hh, _, rfl, SqL.of (S15 _ _ h6), hbh, fun H16 S16 => ⟨_, rfl, iteF ?_⟩⟩⟩⟩
      have S16 := S15.trans S16
      have B16 := B14.same S16
      have U16 := U14.trans (But.of S16)
      have h16 := S16 _ _ h6
      have hhb : hh ≠ b := B5.apart nh5
      -- the head spoilt
      refine ⟨_, rfl, b, 256, rfl, B16, by decide, fun x2 H17 x20 x21 B17 U17 => ⟨_, rfl, _, rfl, b, 32, rfl, B17, by decide, fun z H18 z0 z1 B18 U18 => ?_⟩⟩
      obtain ⟨k3, rfl⟩ : ∃ k : Nat, z = (k : Int) := ⟨z.toNat, by omega⟩
      have h18 := (U17.trans U18).k hh _ hhb h16
      have U18 := U16.trans (U17.trans U18)
      refine ⟨hh, _, _, k3, rfl, rfl, h18, ixN_at (by rw [List.length_map, hbh.1]; omega), ?_⟩
      obtain ⟨B19, U19⟩ := Box.put (o := .lst ((((headOf x1 y1).map V.int)).set k3 (.int x2))) B5 B18 U18 nh5
      rw [map_set] at B19 U19
      have h19 : upd H18 hh (.lst (((headOf x1 y1).map V.int).set k3 (.int x2))) hh = some (.lst (((headOf x1 y1).set k3 x2).map V.int)) := by rw [map_set]; exact upd_same
      rw [← map_set] at B19 U19
      have hbh2 : Blk ((headOf x1 y1).set k3 x2) := blk_set hbh k3 ⟨x20, by omega⟩
      generalize upd H18 hh (.lst (((headOf x1 y1).map V.int).set k3 (.int x2))) = H19 at B19 U19 h19
      -- another block
      refine ⟨32, rfl, by decide, by decide, fun D2 nD2 => ?_⟩
      have nD5 : H5 D2 = none := But.offNone B5 U19 nD2
      have D2b : D2 ≠ b := B5.apart nD5
      have D2h : D2 ≠ hh := fun e => by rw [e, h19] at nD2; cases nD2
      refine lc_range (n := 32) (fun j H' => ∃ os : List Int, H' D2 = some (.lst (os.map V.int)) ∧ os.length = j ∧ (∀ o ∈ os, 0 ≤ o ∧ o ≤ 255) ∧ Box H' b ∧ But b H5 H' ∧ H' hh = some (.lst (((headOf x1 y1).set k3 x2).map V.int)))
        ⟨[], upd_same, rfl, fun x h => (nomatch h), B19.new nD2, U19.new nD2, by rw [upd_ne D2h.symm]; exact h19⟩ ?_ ?_
      · rintro j H20 hj ⟨os, hD2, ol, ob, B20, U20, hh20⟩
        refine ⟨rfl, _, rfl, b, 256, rfl, B20, by decide, fun x H21 x0 x1' B21 U21 => ?_⟩
        have hD21 := U21.k D2 _ D2b hD2
        refine ⟨_, hD21, ?_, os ++ [x], upd_same.trans (congrArg some lst_more), by rw [List.length_append, ol]; rfl, fun o ho => ?_, (Box.put B5 B21 (U20.trans U21) nD5).1, (Box.put B5 B21 (U20.trans U21) nD5).2, ?_⟩
        · rw [List.length_map]
          exact small_line (by omega)
        · rcases List.mem_append.mp ho with h | h
          · exact ob o h
          · rw [List.mem_singleton.mp h]
            exact ⟨x0, by omega⟩
        · rw [upd_ne D2h.symm]
          exact U21.k hh _ hhb hh20
      rintro H20 ⟨os, hD2, ol, ob, B20, U20, hh20⟩
      have hbo : Blk os := ⟨ol, ob⟩
      refine ⟨(by show 2 ≤ sizeLine; decide), fun l3 nl3 => ⟨_, rfl, b, 2, rfl, B20.new nl3, by decide, fun y2 H21 y20 y21 B21 U21 => ?_⟩⟩
      have hl3 := B20.keepL nl3 U21
      have U2021 : But b H20 H21 := (But.of (same_new (o := .lst [V.int 72, .int 74]) nl3)).trans U21
      have hD21 := U2021.k D2 _ D2b hD2
      have hh21 := U2021.k hh _ hhb hh20
      have U21 := U20.trans U2021
      obtain ⟨y3, ey3, y30⟩ : ∃ y3 : Int, atI [V.int 72, .int 74] y2 = some (.int y3) ∧ 0 ≤ y3 ∧ y3 ≤ 255 := by
        have c : y2 = 0 ∨ y2 = 1 := by omega
        rcases c with rfl | rfl
        · exact ⟨72, rfl, by decide, by decide⟩
        · exact ⟨74, rfl, by decide, by decide⟩
      refine ⟨l3, _, _, _, rfl, rfl, SqL.of hl3, ey3, _, rfl, D2, _, _, 0, rfl, rfl, hD21, ixN_at (j := 0) (by rw [List.length_map, ol]; decide), ?_⟩
      rw [map_set]
      obtain ⟨B22, U22⟩ := Box.put (o := .lst ((os.set 0 y3).map V.int)) B5 B21 U21 nD5
      have hD22 : upd H21 D2 (.lst ((os.set 0 y3).map V.int)) D2 = some (.lst ((os.set 0 y3).map V.int)) := upd_same
      have hh22 : upd H21 D2 (.lst ((os.set 0 y3).map V.int)) hh = _ := (upd_ne D2h.symm).trans hh21
      have hbo2 : Blk (os.set 0 y3) := blk_set hbo 0 y30
      generalize upd H21 D2 (.lst ((os.set 0 y3).map V.int)) = H22 at B22 U22 hD22 hh22
      refine ⟨_, rfl, D2, _, _, _, rfl, rfl, SqL.of hD22, atI_blk hbo2 (i := 0) (by decide), _, rfl, D2, _, _, 31, rfl, rfl, hD22, ixN_at (j := 31) (by rw [List.length_map, hbo2.1]; decide), ?_⟩
      rw [map_set]
      obtain ⟨B23, U23⟩ := Box.put (o := .lst (((os.set 0 y3).set 31 (gI (os.set 0 y3) 0)).map V.int)) B5 B22 U22 nD5
      have hD23 : upd H22 D2 (.lst (((os.set 0 y3).set 31 (gI (os.set 0 y3) 0)).map V.int)) D2 = some (.lst (((os.set 0 y3).set 31 (gI (os.set 0 y3) 0)).map V.int)) := upd_same
      have hh23 : upd H22 D2 (.lst (((os.set 0 y3).set 31 (gI (os.set 0 y3) 0)).map V.int)) hh = _ := (upd_ne D2h.symm).trans hh22
      have hbo3 : Blk ((os.set 0 y3).set 31 (gI (os.set 0 y3) 0)) := blk_set hbo2 31 (blk_get hbo2 0)
      generalize upd H22 D2 (.lst (((os.set 0 y3).set 31 (gI (os.set 0 y3) 0)).map V.int)) = H23 at B23 U23 hD23 hh23
      refine ⟨_, rfl, hh, _, rfl, SqL.of hh23, hbh2, fun H24 S24 => ⟨_, rfl, iteF ⟨_, rfl, D2, _, rfl, SqL.of (S24 _ _ hD23), hbo3, fun H25 S25 => ⟨_, rfl, iteF ?_⟩⟩⟩⟩
      exact ⟨_, _, _, _, _, _, _, rfl, B23.same (S24.trans S25)⟩
    · rintro σ H0 ⟨v2, v3, v4, v5, v6, v7, v8, rfl, B0⟩
      refine ⟨(by show 1 ≤ sizeLine; decide), fun p0 np0 => ?_⟩
      refine ⟨p0, 32, _, rfl, rfl, upd_same, by decide, by decide, by decide, fun z nz => ?_⟩
      rw [show ((32 : Int)).toNat = 32 from rfl, rep_flat]
      exact ⟨z, zs32, rfl, SqL.of upd_same, blk_zeros, fun H' _ => q H'⟩
end
end LB

set_option maxRecDepth 100000
set_option maxHeartbeats 8000000
namespace LB
open PySem PySem.Spec PyProof.Rows L2
open PySem.W (nsIn findIn subIn typeIn mroIn keepIn codeIn hasDictIn isClsIn specialIn takesIn)
/-- the law's def keeps its promise, from what the top has written -/
theorem all_mk {l : PySem.W.OpenLaw} {w : World} {K : PySem.W.Frag} {h : Heap} {mg : Str → Option Value} {fa : Addr} (X : K.In h) (G : h.Ns mainGlobals mg) (hfa : mg "law" = some (.ref fa))
    {fCell fDig fDr fDp fDh fMk fZr fLp fLs fUp fUh fLr fLt fLw : Addr} {odCell anCell odDig anDig odDr anDr odDp anDp odDh anDh odMk anMk odZr anZr odLp anLp odLs anLs odUp anUp odUh anUh odLr anLr odLt anLt odLw anLw : Option Addr} {slCell slDig slDr slDp slDh slMk slZr slLp slLs slUp slUh slLr slLt slLw : Array (Option Value)} {ocCell kVCell dcCell pmCell cdCell ctCell ocDig kVDig dcDig pmDig cdDig ctDig ocDr kVDr dcDr pmDr cdDr ctDr ocDp kVDp dcDp pmDp cdDp ctDp ocDh kVDh dcDh pmDh cdDh ctDh ocMk kVMk dcMk pmMk cdMk ctMk ocZr kVZr dcZr pmZr cdZr ctZr ocLp kVLp dcLp pmLp cdLp ctLp ocLs kVLs dcLs pmLs cdLs ctLs ocUp kVUp dcUp pmUp cdUp ctUp ocUh kVUh dcUh pmUh cdUh ctUh ocLr kVLr dcLr pmLr cdLr ctLr ocLt kVLt dcLt pmLt cdLt ctLt ocLw kVLw dcLw pmLw cdLw ctLw : Value} {t6 tpc tpm thm tgr tch : Tok} {chz : Str}
    (aCell : nsIn K mainGlobals "_law_cell" = some (some (.ref fCell)))
    (lCell : K.lookup fCell = some ⟨ocCell, odCell, .func (PySem.W.fnOf "_law_cell" "_law_cell" (defArgs sCell) (defBody sCell) (defScope sCell) .none kVCell dcCell pmCell anCell cdCell ctCell), slCell⟩)
    (cCell : codeIn K cdCell "_law_cell" = true)
    (kCell : keepIn K (.ref fCell) = true)
    (aDig : nsIn K mainGlobals "_law_digits" = some (some (.ref fDig)))
    (lDig : K.lookup fDig = some ⟨ocDig, odDig, .func (PySem.W.fnOf "_law_digits" "_law_digits" (defArgs sDigits) (defBody sDigits) (defScope sDigits) .none kVDig dcDig pmDig anDig cdDig ctDig), slDig⟩)
    (cDig : codeIn K cdDig "_law_digits" = true)
    (kDig : keepIn K (.ref fDig) = true)
    (aDr : nsIn K mainGlobals "_law_draw" = some (some (.ref fDr)))
    (lDr : K.lookup fDr = some ⟨ocDr, odDr, .func (PySem.W.fnOf "_law_draw" "_law_draw" (defArgs sDraw) (defBody sDraw) (defScope sDraw) .none kVDr dcDr pmDr anDr cdDr ctDr), slDr⟩)
    (cDr : codeIn K cdDr "_law_draw" = true)
    (kDr : keepIn K (.ref fDr) = true)
    (aDp : nsIn K mainGlobals "decode_piece" = some (some (.ref fDp)))
    (lDp : K.lookup fDp = some ⟨ocDp, odDp, .func (PySem.W.fnOf "decode_piece" "decode_piece" (defArgs sDecP) (defBody sDecP) (defScope sDecP) .none kVDp dcDp pmDp anDp cdDp ctDp), slDp⟩)
    (cDp : codeIn K cdDp "decode_piece" = true)
    (kDp : keepIn K (.ref fDp) = true)
    (aDh : nsIn K mainGlobals "decode_head" = some (some (.ref fDh)))
    (lDh : K.lookup fDh = some ⟨ocDh, odDh, .func (PySem.W.fnOf "decode_head" "decode_head" (defArgs sDecH) (defBody sDecH) (defScope sDecH) .none kVDh dcDh pmDh anDh cdDh ctDh), slDh⟩)
    (cDh : codeIn K cdDh "decode_head" = true)
    (kDh : keepIn K (.ref fDh) = true)
    (aMk : nsIn K mainGlobals "has_marks" = some (some (.ref fMk)))
    (lMk : K.lookup fMk = some ⟨ocMk, odMk, .func (PySem.W.fnOf "has_marks" "has_marks" (defArgs sMarks) (defBody sMarks) (defScope sMarks) .none kVMk dcMk pmMk anMk cdMk ctMk), slMk⟩)
    (cMk : codeIn K cdMk "has_marks" = true)
    (kMk : keepIn K (.ref fMk) = true)
    (aZr : nsIn K mainGlobals "are_zeros" = some (some (.ref fZr)))
    (lZr : K.lookup fZr = some ⟨ocZr, odZr, .func (PySem.W.fnOf "are_zeros" "are_zeros" (defArgs sZeros) (defBody sZeros) (defScope sZeros) .none kVZr dcZr pmZr anZr cdZr ctZr), slZr⟩)
    (cZr : codeIn K cdZr "are_zeros" = true)
    (kZr : keepIn K (.ref fZr) = true)
    (aLp : nsIn K mainGlobals "_law_pieces" = some (some (.ref fLp)))
    (lLp : K.lookup fLp = some ⟨ocLp, odLp, .func (PySem.W.fnOf "_law_pieces" "_law_pieces" (defArgs sPieces) (defBody sPieces) (defScope sPieces) .none kVLp dcLp pmLp anLp cdLp ctLp), slLp⟩)
    (cLp : codeIn K cdLp "_law_pieces" = true)
    (kLp : keepIn K (.ref fLp) = true)
    (aLs : nsIn K mainGlobals "_law_stored_text" = some (some (.ref fLs)))
    (lLs : K.lookup fLs = some ⟨ocLs, odLs, .func (PySem.W.fnOf "_law_stored_text" "_law_stored_text" (defArgs sStored) (defBody sStored) (defScope sStored) .none kVLs dcLs pmLs anLs cdLs ctLs), slLs⟩)
    (cLs : codeIn K cdLs "_law_stored_text" = true)
    (kLs : keepIn K (.ref fLs) = true)
    (aUp : nsIn K mainGlobals "_law_due_piece" = some (some (.ref fUp)))
    (lUp : K.lookup fUp = some ⟨ocUp, odUp, .func (PySem.W.fnOf "_law_due_piece" "_law_due_piece" (defArgs sDueP) (defBody sDueP) (defScope sDueP) .none kVUp dcUp pmUp anUp cdUp ctUp), slUp⟩)
    (cUp : codeIn K cdUp "_law_due_piece" = true)
    (kUp : keepIn K (.ref fUp) = true)
    (aUh : nsIn K mainGlobals "_law_due_head" = some (some (.ref fUh)))
    (lUh : K.lookup fUh = some ⟨ocUh, odUh, .func (PySem.W.fnOf "_law_due_head" "_law_due_head" (defArgs sDueH) (defBody sDueH) (defScope sDueH) .none kVUh dcUh pmUh anUh cdUh ctUh), slUh⟩)
    (cUh : codeIn K cdUh "_law_due_head" = true)
    (kUh : keepIn K (.ref fUh) = true)
    (aLr : nsIn K mainGlobals "_law_read" = some (some (.ref fLr)))
    (lLr : K.lookup fLr = some ⟨ocLr, odLr, .func (PySem.W.fnOf "_law_read" "_law_read" (defArgs sRead) (defBody sRead) (defScope sRead) .none kVLr dcLr pmLr anLr cdLr ctLr), slLr⟩)
    (cLr : codeIn K cdLr "_law_read" = true)
    (kLr : keepIn K (.ref fLr) = true)
    (aLt : nsIn K mainGlobals "_law_torn" = some (some (.ref fLt)))
    (lLt : K.lookup fLt = some ⟨ocLt, odLt, .func (PySem.W.fnOf "_law_torn" "_law_torn" (defArgs sTorn) (defBody sTorn) (defScope sTorn) .none kVLt dcLt pmLt anLt cdLt ctLt), slLt⟩)
    (cLt : codeIn K cdLt "_law_torn" = true)
    (kLt : keepIn K (.ref fLt) = true)
    (aLw : nsIn K mainGlobals "law" = some (some (.ref fLw)))
    (lLw : K.lookup fLw = some ⟨ocLw, odLw, .func (PySem.W.fnOf "law" "law" (defArgs sLaw) (defBody sLaw) (defScope sLaw) .none kVLw dcLw pmLw anLw cdLw ctLw), slLw⟩)
    (cLw : codeIn K cdLw "law" = true)
    (kLw : keepIn K (.ref fLw) = true)
    (z0 : nsIn K mainGlobals "len" = some none)
    (z1 : nsIn K mainGlobals "range" = some none)
    (z2 : nsIn K mainGlobals "int" = some none)
    (z3 : nsIn K mainGlobals "repr" = some none)
    (z4 : nsIn K mainGlobals "all" = some none)
    (z5 : nsIn K mainGlobals "ord" = some none)
    (z6 : nsIn K mainGlobals "list" = some none)
    (z7 : nsIn K mainGlobals "max" = some none)
    (c6 : nsIn K mainGlobals "TEXT_AT" = some (some (.int 6 t6)))
    (cpc : nsIn K mainGlobals "PIECE" = some (some (.int 24 tpc)))
    (cpm : nsIn K mainGlobals "PIECE_MARK" = some (some (.int 74 tpm)))
    (chm : nsIn K mainGlobals "HEAD_MARK" = some (some (.int 72 thm)))
    (cgr : nsIn K mainGlobals "GRACE_MOST" = some (some (.int 1000 tgr)))
    (cch : nsIn K mainGlobals "CHARACTERS" = some (some (.str chz tch)))
    (chT : TL.tl chz = charL) :
    ∃ fd : FuncData, (∀ (s : Shared) (u : Value), BindsTo s fd ⟨[u], []⟩ [("script", u)]) ∧ ∀ base : Heap, K.In base → base.Ns mainGlobals mg → FnG l.prog w K mg base CX0 4 fa fd ["script"] (spLaw K) := by
  have FCell := fun_mk (st := sCell) lCell cCell kCell
  have bCell := FCell.binds (ps := ["script", "k"]) fun _ _ _ _ _ _ us hl => match us, hl with | [_, _], _ => rfl
  have mCell := PySem.W.mg_of X G aCell
  have FDig := fun_mk (st := sDigits) lDig cDig kDig
  have bDig := FDig.binds (ps := ["script", "first", "last"]) fun _ _ _ _ _ _ us hl => match us, hl with | [_, _, _], _ => rfl
  have mDig := PySem.W.mg_of X G aDig
  have FDr := fun_mk (st := sDraw) lDr cDr kDr
  have bDr := FDr.binds (ps := ["box", "many"]) fun _ _ _ _ _ _ us hl => match us, hl with | [_, _], _ => rfl
  have mDr := PySem.W.mg_of X G aDr
  have FDp := fun_mk (st := sDecP) lDp cDp kDp
  have bDp := FDp.binds (ps := ["block"]) fun _ _ _ _ _ _ us hl => match us, hl with | [_], _ => rfl
  have mDp := PySem.W.mg_of X G aDp
  have FDh := fun_mk (st := sDecH) lDh cDh kDh
  have bDh := FDh.binds (ps := ["block"]) fun _ _ _ _ _ _ us hl => match us, hl with | [_], _ => rfl
  have mDh := PySem.W.mg_of X G aDh
  have FMk := fun_mk (st := sMarks) lMk cMk kMk
  have bMk := FMk.binds (ps := ["block", "mark"]) fun _ _ _ _ _ _ us hl => match us, hl with | [_, _], _ => rfl
  have mMk := PySem.W.mg_of X G aMk
  have FZr := fun_mk (st := sZeros) lZr cZr kZr
  have bZr := FZr.binds (ps := ["numbers"]) fun _ _ _ _ _ _ us hl => match us, hl with | [_], _ => rfl
  have mZr := PySem.W.mg_of X G aZr
  have FLp := fun_mk (st := sPieces) lLp cLp kLp
  have bLp := FLp.binds (ps := ["number", "text"]) fun _ _ _ _ _ _ us hl => match us, hl with | [_, _], _ => rfl
  have mLp := PySem.W.mg_of X G aLp
  have FLs := fun_mk (st := sStored) lLs cLs kLs
  have bLs := FLs.binds (ps := ["box", "many"]) fun _ _ _ _ _ _ us hl => match us, hl with | [_, _], _ => rfl
  have mLs := PySem.W.mg_of X G aLs
  have FUp := fun_mk (st := sDueP) lUp cUp kUp
  have bUp := FUp.binds (ps := ["block"]) fun _ _ _ _ _ _ us hl => match us, hl with | [_], _ => rfl
  have mUp := PySem.W.mg_of X G aUp
  have FUh := fun_mk (st := sDueH) lUh cUh kUh
  have bUh := FUh.binds (ps := ["block"]) fun _ _ _ _ _ _ us hl => match us, hl with | [_], _ => rfl
  have mUh := PySem.W.mg_of X G aUh
  have FLr := fun_mk (st := sRead) lLr cLr kLr
  have bLr := FLr.binds (ps := ["block"]) fun _ _ _ _ _ _ us hl => match us, hl with | [_], _ => rfl
  have mLr := PySem.W.mg_of X G aLr
  have FLt := fun_mk (st := sTorn) lLt cLt kLt
  have bLt := FLt.binds (ps := ["block"]) fun _ _ _ _ _ _ us hl => match us, hl with | [_], _ => rfl
  have mLt := PySem.W.mg_of X G aLt
  have FLw := fun_mk (st := sLaw) lLw cLw kLw
  have n0 := PySem.W.mg_none_of X G z0
  have n1 := PySem.W.mg_none_of X G z1
  have n2 := PySem.W.mg_none_of X G z2
  have n3 := PySem.W.mg_none_of X G z3
  have n4 := PySem.W.mg_none_of X G z4
  have n5 := PySem.W.mg_none_of X G z5
  have n6 := PySem.W.mg_none_of X G z6
  have n7 := PySem.W.mg_none_of X G z7
  have M0 : Names mg := ⟨n0, n1, n2, n3⟩
  have M : NamesW mg := ⟨M0, n4, n5, n6, n7⟩
  have T : TopW mg := ⟨⟨_, PySem.W.mg_of X G c6⟩, ⟨_, PySem.W.mg_of X G cpc⟩, ⟨_, PySem.W.mg_of X G cpm⟩, ⟨_, PySem.W.mg_of X G chm⟩, ⟨_, PySem.W.mg_of X G cgr⟩, ⟨_, _, PySem.W.mg_of X G cch, chT⟩⟩
  have e := hfa.symm.trans (PySem.W.mg_of X G aLw)
  cases e
  refine ⟨_, fun s v => .of_eq rfl, fun base _ _ => ok_law FLw ?_⟩
  have GP : FnOk l.prog w K mg base CX0 2 fDp _ ["block"] (spDecP K) := ok_decP FDp M T FMk mMk bMk FZr mZr bZr
  have GH : FnOk l.prog w K mg base CX0 2 fDh _ ["block"] (spDecH K) := ok_decH FDh M T FMk mMk bMk FZr mZr bZr
  have GE : FnOk l.prog w K mg base CX0 1 fUp _ ["block"] (spDecP K) := ok_dueP FUp
  have GG : FnOk l.prog w K mg base CX0 1 fUh _ ["block"] (spDecH K) := ok_dueH FUh
  exact
    { D := ⟨_, _, ok_draw FDr M0, mDr, kDr, bDr⟩, G := ⟨_, _, ok_digits FDig M0 FCell mCell bCell, mDig, kDig, bDig⟩,
      Pi := ⟨_, _, ok_pieces FLp M, mLp, kLp, bLp⟩, S := ⟨_, _, ok_stored FLs M FDr mDr bDr, mLs, kLs, bLs⟩,
      R := ⟨_, _, ok_read1 FLr M GP mDp kDp bDp GH mDh kDh bDh GE mUp kUp bUp GG mUh kUh bUh, mLr, kLr, bLr⟩, T := ⟨_, _, ok_torn1 FLt M GP mDp kDp bDp, mLt, kLt, bLt⟩, names := M }
end LB

open PySem PySem.W PyProof.Rows
set_option maxRecDepth 100000 in
set_option maxHeartbeats 0 in
theorem PySem.Challenge.cw_asforetold_k44_any_block_is_read_so_holds : PySem.Challenge.rw_asforetold_k44_any_block_is_read_so.Holds := by
  w_on; o_law; k_head; (case hw => w_witness2)
  k_fill
  refine LB.walk_free (l := PySem.Challenge.rw_asforetold_k44_any_block_is_read_so) (n := 63) (k := 4) (x := "script") (CX := L2.CX0) (sp := LB.spLaw) rfl (by decide) rfl ⟨rfl, by decide, by decide⟩ (fun w h Y => PySem.W.kIn_of Y) ?F (fun K H a ns hl _ hS => ⟨a, ns, rfl, hS, fun _ => rfl⟩) fun _ _ _ _ z => z
  case F =>
    intro w mg fa h KX G hmg
    refine' LB.all_mk KX G hmg ?aCell ?lCell ?cCell ?kCell ?aDig ?lDig ?cDig ?kDig ?aDr ?lDr ?cDr ?kDr ?aDp ?lDp ?cDp ?kDp ?aDh ?lDh ?cDh ?kDh ?aMk ?lMk ?cMk ?kMk ?aZr ?lZr ?cZr ?kZr ?aLp ?lLp ?cLp ?kLp ?aLs ?lLs ?cLs ?kLs ?aUp ?lUp ?cUp ?kUp ?aUh ?lUh ?cUh ?kUh ?aLr ?lLr ?cLr ?kLr ?aLt ?lLt ?cLt ?kLt ?aLw ?lLw ?cLw ?kLw ?z0 ?z1 ?z2 ?z3 ?z4 ?z5 ?z6 ?z7 ?c6 ?cpc ?cpm ?chm ?cgr ?cch ?chT
    (case aCell => k_is)
    (case lCell => k_is)
    (case cCell => k_is)
    (case kCell => k_is)
    (case aDig => k_is)
    (case lDig => k_is)
    (case cDig => k_is)
    (case kDig => k_is)
    (case aDr => k_is)
    (case lDr => k_is)
    (case cDr => k_is)
    (case kDr => k_is)
    (case aDp => k_is)
    (case lDp => k_is)
    (case cDp => k_is)
    (case kDp => k_is)
    (case aDh => k_is)
    (case lDh => k_is)
    (case cDh => k_is)
    (case kDh => k_is)
    (case aMk => k_is)
    (case lMk => k_is)
    (case cMk => k_is)
    (case kMk => k_is)
    (case aZr => k_is)
    (case lZr => k_is)
    (case cZr => k_is)
    (case kZr => k_is)
    (case aLp => k_is)
    (case lLp => k_is)
    (case cLp => k_is)
    (case kLp => k_is)
    (case aLs => k_is)
    (case lLs => k_is)
    (case cLs => k_is)
    (case kLs => k_is)
    (case aUp => k_is)
    (case lUp => k_is)
    (case cUp => k_is)
    (case kUp => k_is)
    (case aUh => k_is)
    (case lUh => k_is)
    (case cUh => k_is)
    (case kUh => k_is)
    (case aLr => k_is)
    (case lLr => k_is)
    (case cLr => k_is)
    (case kLr => k_is)
    (case aLt => k_is)
    (case lLt => k_is)
    (case cLt => k_is)
    (case kLt => k_is)
    (case aLw => k_is)
    (case lLw => k_is)
    (case cLw => k_is)
    (case kLw => k_is)
    (case z0 => k_is)
    (case z1 => k_is)
    (case z2 => k_is)
    (case z3 => k_is)
    (case z4 => k_is)
    (case z5 => k_is)
    (case z6 => k_is)
    (case z7 => k_is)
    (case c6 => k_is)
    (case cpc => k_is)
    (case cpm => k_is)
    (case chm => k_is)
    (case cgr => k_is)
    (case cch => k_is)
    (case chT => (decide +kernel))

