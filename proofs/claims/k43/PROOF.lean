import PyProof.Rows.All
import Wide.All
import OpenK.AllK
import Wide.FinOn
import HandS.ForExc
import HandS.EndBits
import HandS.Wide
import HandS.TupLe
import PyProof.StrBlock2
import HandS.Text
import HandS.Dict
import HandS.DictComp
import HandS.List
import HandS.Walk
import PyProof.EqLayable
import HandS.ExcSuper
import HandS.ExcIs
import KE.KExcSuper
import KE.KExcIs
import HandS.Codes
import HandS.Comp
import HandS.TupAny
import HandS.Strs
import HandS.NoneIn
import HandS.Iter
import HandS.IsInst
import HandS.TryOnly
import KE.KExcLine
import PySem.Challenge.RW_asforetold_k43_records_in_pieces
set_option Elab.async false
set_option linter.all false
set_option maxRecDepth 100000
set_option maxHeartbeats 2000000
namespace LB
open PySem PySem.Spec PyProof.Rows L2
/-! ### defs that are called where no repr is under way -/
def Free (A : Around) : Prop := A.guards = some []
/-- as a def's promise, but told of calls from places at which no repr is under way alone -/
structure FnG (P : Program) (w : World) (K : PySem.W.Frag) (mg : Str → Option Value) (base : Heap) (CX : CXT) (k : Nat) (f : Addr) (fd : FuncData) (ps : List Str) (sp : Sp) : Prop where
  many : ∀ xs H Q E, sp xs H Q E → xs.length = ps.length
  goes : ∀ (A : Around) (fr : List Env) (s : Shared) (H : Hp) (a : Args) (us : List Value) (xs : List V) (Q : VK) (E : XK), Free A → Room k A → Env0 P w K mg base A fr s H →
    BindsTo s fd a (ps.zip us) → Vals xs us → sp xs H Q E → codeAny (model P w) A (.call (.ref f) a) (CR CX fr P w H s Q E) s
theorem FnG.ofOk {P : Program} {w : World} {K : PySem.W.Frag} {mg : Str → Option Value} {base : Heap} {CX : CXT} {k : Nat} {f : Addr} {fd : FuncData} {ps : List Str} {sp : Sp} (F : FnOk P w K mg base CX k f fd ps sp) : FnG P w K mg base CX k f fd ps sp :=
  ⟨F.len, fun A fr s H a us xs Q E _ => F.run A fr s H a us xs Q E⟩
theorem FnG.up {P : Program} {w : World} {K : PySem.W.Frag} {mg : Str → Option Value} {base : Heap} {CX : CXT} {j k : Nat} {f : Addr} {fd : FuncData} {ps : List Str} {sp : Sp} (F : FnG P w K mg base CX j f fd ps sp) (h : j ≤ k) : FnG P w K mg base CX k f fd ps sp :=
  ⟨F.many, fun A fr s H a us xs Q E g r => F.goes A fr s H a us xs Q E g (r.mono h)⟩
theorem Free.deeper {A : Around} (g : Free A) (env : Env) : Free (A.deeper env) := by
  first
    | exact g
    | (unfold Free at *; simpa [Around.deeper] using g)
/-- by the body, as fn_of -/
theorem FnG.by_body {CX : CXT} {P : Program} {w : World} {K : PySem.W.Frag} {mg : Str → Option Value} {base : Heap} {k : Nat} {f : Addr} {x q : Str} {pa : Arguments} {bd : List Stmt} {sc : Scope} {v1 v2 v3 v4 v5 v6 v7 : Value} {a1 a2 : Option Addr}
    {sl : Array (Option Value)} {N ps : List Str} {sp : Sp} (at_ : K.lookup f = some ⟨v7, a2, .func (PySem.W.fnOf x q pa bd sc v1 v2 v3 v4 a1 v5 v6), sl⟩) (code : PySem.W.codeIn K v5 q = true) (S : FnScope N ps sc)
    (many : ∀ xs H Q E, sp xs H Q E → xs.length = ps.length)
    (body : ∀ (A : Around) (fr : List Env) (s : Shared) (H : Hp) (xs : List V) (Q : VK) (E : XK), Free (A.deeper (envOfC q sc s.heap.objs.size f v5)) → Room k (A.deeper (envOfC q sc s.heap.objs.size f v5)) → sp xs H Q E →
      ∃ t, PSs (cxOf CX P w K mg base N q sc f v5 A fr s H E) bd t ∧ t { nx := fun _ H' => Q .non H', rt := Q } (start N xs) H) :
    FnG P w K mg base CX (k + 1) f (PySem.W.fnOf x q pa bd sc v1 v2 v3 v4 a1 v5 v6) ps sp := by
  constructor
  · exact many
  intro A fr s H a us xs Q E g room e0 bound vals want
  have kin : K.In s.heap := e0.mod.kin.keeps fun b o z => (e0.bs b o z).1
  have nolim : s.heap.NoLimit := e0.mod.nolimit.keeps fun b o z => (e0.bs b o z).1
  have len := many _ _ _ _ want
  obtain ⟨t, derived, reads⟩ := body A fr s H xs Q E (g.deeper _) (room.deeper _) want
  have kinds : ∀ y ∈ ps.zip us, sc.names.lookup y.1 = some .local ∨ (sc.names.lookup y.1 = some .cell ∧ ((cellsFrom (s.heap.objs.size + 1) sc.names []).lookup y.1).isSome = true) := by
    rintro ⟨n, v⟩ hy
    cases S.par n (List.of_mem_zip hy).1 with
    | inl z => exact .inl z
    | inr z => exact .inr ⟨z, PySem.W.cellsFrom_some _ _ _ (.inl z)⟩
  refine codeAny_call_function room.depth (kin _ _ at_) rfl S.co S.gen rfl (PySem.W.codeRec_of kin code) (bound _ _ _ _ ?_)
  refine wpAny_newFunctionEnv_cells S.kind kinds ?_
  intro env he s1 into
  subst he
  refine ⟨nolim.keeps into.toInCall.keep, codeAny_func ?_⟩
  have I := inv_start (CX := CX) (E := E) S room.hd e0 len vals into
  refine wpAny_mono (derived.run [] s1 (start N xs) H _ I reads) ?_ (fun _ _ z => z)
  intro fl s2 z
  cases fl with
  | next =>
    obtain ⟨σ2, H2, J, q⟩ := z
    exact ⟨.non, H2, J.os, J.bare, J.base, J.hok, rfl, q⟩
  | ret u =>
    obtain ⟨v, σ2, H2, J, r, q⟩ := z
    exact ⟨v, H2, J.os, J.bare, J.base, J.hok, r, q⟩
  | brk =>
    obtain ⟨_, _, _, q⟩ := z
    exact q.elim
  | cont =>
    obtain ⟨_, _, _, q⟩ := z
    exact q.elim
theorem FnG.of_fun {P : Program} {w : World} {K : PySem.W.Frag} {mg : Str → Option Value} {base : Heap} {x q : Str} {st : Stmt} {f : Addr} {fd : FuncData} {N ps : List Str} {k : Nat} {sp : Sp} (F : Fun K x q st f fd) (S : FnScope N ps (defScope st)) (many : ∀ xs H Q E, sp xs H Q E → xs.length = ps.length)
    (body : ∀ (cdv : Value) (A : Around) (fr : List Env) (s : Shared) (H : Hp) (xs : List V) (Q : VK) (E : XK), Free (A.deeper (envOfC q (defScope st) s.heap.objs.size f cdv)) → Room k (A.deeper (envOfC q (defScope st) s.heap.objs.size f cdv)) → sp xs H Q E →
      ∃ t, PSs (cxOf CX0 P w K mg base N q (defScope st) f cdv A fr s H E).nox (defBody st) t ∧ t { nx := fun _ H' => Q .non H', rt := Q } (start N xs) H) : FnG P w K mg base CX0 (k + 1) f fd ps sp := by
  obtain ⟨v7, a2, v2, v3, v4, a1, v5, v6, sl, rfl, at_, code⟩ := F.ex
  refine FnG.by_body at_ code S many ?_
  intro A fr s H xs Q E g r want
  obtain ⟨t, h, q⟩ := body v5 A fr s H xs Q E g r want
  exact ⟨t, h.nox, q⟩
section
variable {X : Cx} {CX : CXT} {k : Nat} {f : Addr} {fd : FuncData} {ps : List Str} {sp : Sp} {dvs : List V} {ds : List Value} {E : XK} {x : Str} {p pos : Pos} {e : Expr} {es : List Expr} {t : TA}
/-- f(e, ..), f such a def -/
theorem pe_callF (g : Free X.A) (F : FnG X.prog X.w X.K X.mg X.base CX k f fd ps sp) (hr : Room k X.A) (hg : Gl X x) (hm : X.mg x = some (.ref f)) (hk : PySem.W.keepIn X.K (.ref f) = true) (hb : Binds X.K fd ps ds) (hd : Vals dvs ds) (hx : Passes CX X E)
    (ha : PA X (e :: es) t) (hdb : (x == ("__debug__" : Str)) = false := by decide) (he : starEach (e :: es) X.env = (false, eval e X.env) :: starEach es X.env := by rfl) (hpl : (backTo pos (starEach es X.env)).any (·.1) = false := by rfl) :
    PE X (.Call (.Name x p) (e :: es) [] pos) (tCall sp dvs E t) := by
  constructor
  intro pins s σ H Q I h
  refine wpAny_Call_Name_kw (ld_glob I hg hm ?_ hdb)
  refine PySem.W.callWith_K (h₀ := X.base) I.ok.mod.kin hk (thn (ha.run pos pins s σ H _ I h) ?_) he hpl
  rintro us s1 ⟨xs, H1, I1, r, q⟩
  refine ⟨I1.kIn, ?_⟩
  have r2 : Vals (xs ++ dvs) (us ++ ds) := r.append hd
  have len : (us ++ ds).length = ps.length := r2.length.symm.trans (F.many _ _ _ _ q)
  refine wpAny_call (codeAny_mono (F.goes X.A X.stack s1 H1 ⟨us, []⟩ (us ++ ds) (xs ++ dvs) Q E g hr I1.env0 (hb s1 us I1.kIn len) r2 q) ?_)
  intro res s2 z
  match res, z with
  | .error err, z => exact hx pins σ H1 s1 err s2 I1 z
  | .ok (.ret u), z => exact I1.after z
  | .ok .next, z => exact False.elim z
  | .ok .brk, z => exact False.elim z
  | .ok .cont, z => exact False.elim z
end
end LB

set_option maxRecDepth 100000
set_option maxHeartbeats 2000000
namespace LB
open PySem PySem.Spec PyProof.Rows L2
/-! ### repr of data -/
/-- data whose repr is short enough to be told -/
structure Short (d : PyData) : Prop where
  sh : d.showable = true
  nd : d.hasDict = false
  dp : d.depth ≤ 50
  len : d.shown.length ≤ sizeLine
def rRepr (K : PySem.W.Frag) : List V → Hp → VK → Prop := fun xs H Q => ∃ v d, xs = [v] ∧ Dp K H v d ∧ Short d ∧ Q (.str d.shown) H
theorem call_repr {X : Cx} (g : Free X.A) (hu : X.A.units + 64 < cLine) : CallR X (.builtin "repr") (rRepr X.K) := by
  intro pins s σ H xs us Q I r h
  obtain ⟨v, d, rfl, hd, S, q⟩ := h
  obtain ⟨u, rfl, ru⟩ := vals1 r
  obtain ⟨as, rd⟩ := Dp.reads I d v u hd ru
  have fin : ∀ (a : Addr), Reads s.heap (.ref a) d as → wpAny (model X.prog X.w) X.A (call (.builtin "repr") [.ref a]) (EP X pins σ Q) X.xe s := fun a ra => by
    have dp := S.dp
    refine repr_of_reads' ra S.sh (PyData.noDict_hsm S.nd) g (by omega) (fun _ _ z => z) ?_ S.len
    intro h' t tk kept
    exact ⟨.str d.shown, H, I.kept kept, ⟨_, rfl⟩, q⟩
  cases rd with
  | none => exact PySem.P.repr_of_none ⟨.str _, H, I.tok _, ⟨_, rfl⟩, q⟩
  | bool b => exact PySem.P.repr_of_bool ⟨.str _, H, I.tok _, ⟨_, rfl⟩, q⟩
  | int i t => exact PySem.P.repr_of_int (by have z := S.sh; simpa [PyData.showable] using z) ⟨.str _, H, I.tok _, ⟨_, rfl⟩, q⟩
  | str x t => exact PySem.P.repr_of_str ⟨.str _, H, I.tok _, ⟨_, rfl⟩, q⟩ S.len
  | list h1 h2 h3 h4 => exact fin _ (.list h1 h2 h3 h4)
  | tuple h1 h2 h3 h4 => exact fin _ (.tuple h1 h2 h3 h4)
  | dict h1 h2 h3 h4 h5 => exact absurd S.nd (by simp [PyData.hasDict])
/-- small ints, texts of up to a million signs in all -/
theorem Short.of {d : PyData} (h1 : d.showable = true) (h2 : d.hasDict = false) (h3 : d.depth ≤ 50) (h4 : d.leavesShort 13 = true) (h5 : d.bulk ≤ 2 ^ 20) : Short d :=
  ⟨h1, h2, h3, PyData.shown_fits_bulk (by decide) (by decide) h4 h5⟩
theorem log_small {i : Int} (h : i.natAbs < 10 ^ 12) : i.natAbs.log2 < 1920 := by
  by_cases z : i.natAbs = 0
  · rw [z]; decide
  · have := (Nat.log2_lt z (k := 1920)).mpr (Nat.lt_trans h (by decide))
    exact this
theorem leaf_small {i : Int} (h : i.natAbs < 10 ^ 12) : (PyData.shown (.int i)).length ≤ 13 := PyData.shown_int_le (by simpa using h)
/-- an int below 10 ^ 12 in size -/
def Sm (i : Int) : Prop := i.natAbs < 10 ^ 12
theorem Sm.of {i : Int} (h1 : -1000000000 ≤ i) (h2 : i ≤ 1000000000) : Sm i := by
  have e : (10 : Nat) ^ 12 = 1000000000000 := by decide
  unfold Sm
  rw [e]
  omega
/-! ### two values of one repr -/
def spAlike (K : PySem.W.Frag) : Sp := fun vs H Q _ => ∃ x y d, vs = [x, y] ∧ Dp K H x d ∧ Dp K H y d ∧ Short d ∧ Q (.bl true) H
end LB

set_option maxRecDepth 100000
set_option maxHeartbeats 2000000
namespace LB
open PySem PySem.Spec PyProof.Rows L2
/-! ### the end of a law's row whose def is told of free places alone -/
section
variable {P : Program} {w : World} {K : PySem.W.Frag} {mg mb : Str → Option Value} {CX : CXT} {k : Nat} {fa a : Addr} {fd : FuncData} {x : Str} {sp : Sp} {z : Shared} {us : List Value} {ns : List Int}
/-- what law answers, from a heap H that tracks the script at most -/
theorem answer_from {H : Hp} (g : z.gens = #[]) (only : Only H) (alone : ∀ b, H b ≠ none → b = a) (isL : ∃ d n, (z.heap.get? a).map Obj.data = some (.seq d n)) (kin : K.In z.heap) (apart : H a ≠ none → K.lookup a = none)
    (ng : z.heap.Ns mainGlobals mg) (nb : z.heap.Ns builtinsNs mb) (boot : ∀ y : Str, y ≠ "__name__" → mb y = bootBuiltins y) (nolim : z.heap.NoLimit) (hok : HOk P w H z.heap) (room : Room k callerA)
    (F : ∀ b : Heap, K.In b → b.Ns mainGlobals mg → FnG P w K mg b CX k fa fd [x] sp) (binds : ∀ (s : Shared) (u : Value), BindsTo s fd ⟨[u], []⟩ [(x, u)])
    (want : sp [.ref a] H (fun v _ => v = .bl true) fun _ _ _ => False) (calm : ∀ e s', CX [] H z (fun _ _ _ => False) e s' → False) :
    codeAny (model P w) callerA (.call (.ref fa) ⟨[.ref a], []⟩) (fun r s' => r = .ok (.ret (.bool true)) ∧ OldK z.heap s'.heap ∧ s'.os = z.os ∧ AllBare s'.gens) z := by
  have dictFree : ∀ {b : Addr} {o : Obj} {es : Array DictEntry} {n : Nat}, z.heap.get? b = some o → o.data = .dict es n → H b = none := by
    intro b o es n at_ da
    by_cases q : H b = none
    · exact q
    · have eb := alone b q
      subst eb
      obtain ⟨d, m, e⟩ := isL
      rw [at_] at e
      have e2 := Option.some.inj e
      rw [da] at e2
      cases e2
  have moved : ∀ {b : Addr} {m : Str → Option Value}, z.heap.Ns b m → (hidT z.heap H).Ns b m := by
    rintro b m ⟨o, es, n, at_, da, r⟩
    exact ⟨o, es, n, hidT_get at_ (dictFree at_ da), da, r⟩
  have kin2 : K.In (hidT z.heap H) := by
    intro b o at_
    refine hidT_get (kin b o at_) ?_
    by_cases q : H b = none
    · exact q
    · have eb := alone b q
      subst eb
      rw [apart q] at at_
      cases at_
  obtain ⟨mc, c1, c2⟩ := nolim
  have e0 : Env0 P w K mg (hidT z.heap H) callerA [] z H :=
    { frames := rfl, mod := ⟨kin2, moved ng, ⟨mb, moved nb, boot⟩, ⟨mc, moved c1, c2⟩⟩, bs := fun _ _ at_ => of_hidT at_, bsz := Nat.le_of_eq (hidT_size _ _), funs := trivial,
      frf := fun b hb => absurd (show b ∈ ([] : List Addr) from hb) List.not_mem_nil, hok := hok, bare := .of_eq g }
  refine codeAny_mono ((F _ kin2 (moved ng)).goes callerA [] z H ⟨[.ref a], []⟩ [.ref a] [.ref a] _ _ rfl room e0 (binds z (.ref a)) (.cons rfl .nil) want) ?_
  intro r s' out
  match r, out with
  | .error e, out => exact (calm e s' out).elim
  | .ok .next, out => exact False.elim out
  | .ok .brk, out => exact False.elim out
  | .ok .cont, out => exact False.elim out
  | .ok (.ret u), out =>
    obtain ⟨v, H', os, bare, un, hok', r', q⟩ := out
    have q' : v = .bl true := q
    subst q'
    have eu : u = Value.bool true := r'
    subst eu
    refine ⟨rfl, OldK.of_keep ?_, os, bare⟩
    intro b o at_
    by_cases q : H b = none
    · exact un.keep b o at_ q (fun y => absurd (show b ∈ ([] : List Addr) from y) List.not_mem_nil) List.not_mem_nil
    · rcases only b with y | ⟨ob, xs, y⟩
      · exact absurd y q
      · obtain ⟨e1, _⟩ := hok b _ y
        obtain ⟨e2, _⟩ := hok' b _ (un.frzs b ob _ y)
        rw [at_] at e1
        cases e1
        exact e2
end
theorem walk_free {l : PySem.W.OpenLaw} {n k : Nat} {q : Program} {loose : List Str} {XP : (Str → Option Value) → Heap → Prop} {YP : World → Heap → Prop} {d : DefRec} {K : Params → PySem.W.Frag} {CX : CXT} {sp : PySem.W.Frag → Sp} {x : Str}
    (most : l.most = some n) (small : n ≤ sizeLine) (plain : d.params.defaults = []) (room : Room k callerA) (hY : ∀ (w : World) (h : Heap), YP w h → (K w.params).In h)
    (F : ∀ (w : World) (mg : Str → Option Value) (fa : Addr) (h : Heap), (K w.params).In h → h.Ns mainGlobals mg → mg d.name = some (.ref fa) →
      ∃ fd : FuncData, (∀ (s : Shared) (u : Value), BindsTo s fd ⟨[u], []⟩ [(x, u)]) ∧ ∀ base : Heap, (K w.params).In base → base.Ns mainGlobals mg → FnG l.prog w (K w.params) mg base CX k fa fd [x] (sp (K w.params)))
    (want : ∀ (K : PySem.W.Frag) (H : Hp) (a : Addr) (ns : List Int), ns.length ≤ n → (∀ i ∈ ns, Builtin.Int.intBits i ≤ 1048576) → SqL K H a (ns.map V.int) → sp K [.ref a] H (fun v _ => v = .bl true) fun _ _ _ => False)
    (calm : ∀ (H : Hp) (s : Shared) (e : Value) (s' : Shared), CX [] H s (fun _ _ _ => False) e s' → False) :
    PySem.W.WalkO q loose XP YP l.row.toRowW d [] (fun f vs => PySem.call f vs) := by
  refine Att.attach_callB most plain ?_
  intro w s₀ z mg mb fa o pm cd doc a us ns G Y ho hd hcd hmg at_ nums len bits g
  have kin := hY w _ Y
  obtain ⟨fd, hb, hF⟩ := F w mg fa _ kin G.T.g hmg
  have vals := vals_ints nums
  have lenU : us.length = ns.length := nums.length
  have lenS : (ns.map V.int).length ≤ sizeLine := by rw [List.length_map]; exact Nat.le_trans len small
  have isL : ∃ d n, (z.heap.get? a).map Obj.data = some (.seq d n) := ⟨us.toArray, _, by rw [at_]; rfl⟩
  cases lk : (K w.params).lookup a with
  | some ob =>
    have eo := kin a ob lk
    rw [at_] at eo
    cases eo
    refine answer_from (H := fun _ => none) g (fun _ => .inl rfl) (fun b y => absurd rfl y) isL kin (fun y => absurd rfl y) G.T.g G.T.b G.T.builtins G.T.nolimit (fun b u y => by cases (show (none : Option HO) = some u from y)) room hF hb ?_ fun e s' => calm _ z e s'
    exact want _ _ a ns len bits (.inr ⟨_, us.toArray, _, lk, rfl, rfl, rfl, by simpa [lenU] using lenS, by simpa using vals⟩)
  | none =>
    let S : HO := .frz { cls := .type "list", data := .seq us.toArray } (.lst (ns.map V.int))
    have yes : upd (fun _ => none) a S a = some S := upd_same
    have no : ∀ b, b ≠ a → upd (fun _ => none) a S b = none := fun b hb => by rw [upd_ne hb]
    refine answer_from (H := upd (fun _ => none) a S) g (fun b => ?_) (fun b y => ?_) isL kin (fun _ => lk) G.T.g G.T.b G.T.builtins G.T.nolimit (fun b u y => ?_) room hF hb ?_ fun e s' => calm _ z e s'
    · by_cases hb : b = a
      · subst hb
        exact .inr ⟨_, _, yes⟩
      · exact .inl (no b hb)
    · exact Classical.byContradiction fun hb => y (no b hb)
    · by_cases hb : b = a
      · subst hb
        have ey := Option.some.inj (yes.symm.trans y)
        subst ey
        exact ⟨at_, lenS, us, _, vals, at_⟩
      · rw [no b hb] at y
        cases y
    · exact want _ _ a ns len bits (.inl (.inr ⟨_, yes⟩))
end LB

set_option maxRecDepth 100000
set_option maxHeartbeats 2000000
namespace LB
open PySem PySem.Spec PyProof.Rows L2
/-! ### text * int -/
theorem op_mulS {X : Cx} : OpR X (binaryOp .Mult) (fun x y H Q => ∃ z n, x = .str z ∧ y = .int n ∧ MulOk z n ∧ Q (.str (Txt.mul z n)) H) := by
  intro pins s σ H x y v u Q I rx ry h
  obtain ⟨z, n, rfl, rfl, ok, q⟩ := h
  obtain ⟨t, rfl⟩ := rx
  obtain ⟨t', rfl⟩ := ry
  exact SB.mul ok fun t' k => ⟨.str _, H, I.tok k, ⟨t', rfl⟩, q⟩
/-! ### len of a text, told of no place -/
theorem call_lenS {X : Cx} : CallR X (.builtin "len") (fun xs H Q => ∃ z : Str, xs = [.str z] ∧ z.length ≤ sizeLine ∧ Q (.int z.length) H) := by
  intro pins s σ H xs us Q I r h
  obtain ⟨z, rfl, hz, q⟩ := h
  exact call_len pins s σ H _ us Q I r ⟨_, z.length, rfl, ⟨hz, rfl⟩, q⟩
end LB

set_option maxRecDepth 100000
set_option maxHeartbeats 4000000
namespace LB
open PySem PySem.Spec PyProof.Rows L2 TL
/-! ### texts by their codes, slices, dicts made out of a text -/
def ofL (l : List Nat) : Str := ⟨l.toArray⟩
theorem tl_ofL (l : List Nat) : tl (ofL l) = l := by simp [ofL, tl]
theorem ofL_len (l : List Nat) : (ofL l).length = l.length := by rw [len_tl, tl_ofL]
theorem ofL_app (a b : List Nat) : ofL a ++ ofL b = ofL (a ++ b) := ext_tl (by rw [tl_append, tl_ofL, tl_ofL, tl_ofL])
theorem ofL_tl (z : Str) : ofL (tl z) = z := ext_tl (tl_ofL _)
theorem ofL_inj {a b : List Nat} (h : ofL a = ofL b) : a = b := by rw [← tl_ofL a, h, tl_ofL]
theorem joinL_nil : ∀ ps : List (List Nat), joinL [] ps = ps.flatten
  | [] => rfl
  | [p] => by simp [joinL]
  | p :: q :: r => by
    show p ++ ([] ++ joinL [] (q :: r)) = _
    rw [joinL_nil (q :: r)]
    simp
theorem join_ofL (cs : List Nat) : Txt.join "" (cs.map fun c => ofL [c]) = ofL cs := by
  refine ext_tl ?_
  rw [TL.join_eq, tl_join, tl_ofL, show tl ("" : Str) = [] by decide, joinL_nil, List.map_map]
  induction cs with
  | nil => rfl
  | cons c r ih =>
    rw [List.map_cons, List.flatten_cons, ih]
    show tl (ofL [c]) ++ r = c :: r
    rw [tl_ofL]
    rfl
theorem ones_sum : ∀ cs : List Nat, ((cs.map fun c => ofL [c]).map (·.length)).sum = cs.length
  | [] => rfl
  | c :: r => by
    rw [List.map_cons, List.map_cons, List.sum_cons, ones_sum r, ofL_len, List.length_cons, List.length_cons, List.length_nil]
    omega
theorem ones_room {cs : List Nat} (h : cs.length ≤ 16777216) : ((cs.map fun c => ofL [c]).map (·.length)).sum + (cs.map fun c => ofL [c]).length * (("" : Str)).length ≤ 16777216 := by
  rw [ones_sum, show (("" : Str)).length = 0 by decide, Nat.mul_zero]
  exact h
theorem dc_it {J : It} {n : Nat} {G : Hp → Prop} {Y : Nat → Hp → V → Hp → Prop} (w : Walk J n G Y) {g : TG} {tt : TT} {tk tv : TE} {vs : List Nat} {σ : L2.St} {H1 : Hp} {D : Addr} {Qd : Hp → Prop} (Pv : Nat → Hp → Prop) (h0 : Pv 0 (upd H1 D (.dK []))) (hG : ∀ i H, i ≤ n → Pv i H → G H)
    (hs : ∀ i x H H', i < n → Pv i H → Y i H x H' → g x (wipe σ vs) H' fun σ2 H2 => wipe σ2 vs = wipe σ vs ∧ tt σ2 H2 fun b H3 =>
      if b = true then tk σ2 H3 fun y H4 => tv σ2 H4 fun z H5 => ∃ kvs k, y = kV k ∧ H5 D = some (.dK kvs) ∧ kvs.length < sizeLine ∧ Pv (i + 1) (upd H5 D (.dK (putK kvs k z))) else Pv (i + 1) H3) (hd : ∀ H, Pv n H → Qd H) :
    ∃ W : Nat → Nat → Hp → Prop, (∃ m, W 0 m (upd H1 D (.dK []))) ∧ ∀ i m H, W i m H →
      (J.stop i H ∧ Qd H) ∨ (J.go i H ∧ ∃ Nx : Hp → Prop, (∀ H', Nx H' → ∃ m', m' < m ∧ W (i + 1) m' H') ∧ ∀ x H', J.yld i H x H' → g x (wipe σ vs) H' fun σ2 H2 => wipe σ2 vs = wipe σ vs ∧ tt σ2 H2 fun b H3 =>
        if b = true then tk σ2 H3 fun y H4 => tv σ2 H4 fun z H5 => ∃ kvs k, y = kV k ∧ H5 D = some (.dK kvs) ∧ kvs.length < sizeLine ∧ Nx (upd H5 D (.dK (putK kvs k z))) else Nx H3) := by
  refine ⟨fun i m H => m = n - i ∧ i ≤ n ∧ Pv i H, ⟨n, by simp, Nat.zero_le _, h0⟩, ?_⟩
  rintro i m H ⟨rfl, hi, p⟩
  have q := hG i H hi p
  by_cases hlt : i < n
  · exact .inr ⟨w.goes i H hlt q, Pv (i + 1), fun H' p' => ⟨n - (i + 1), by omega, rfl, hlt, p'⟩, fun x H' y => hs i x H H' hlt p (w.yields i H x H' hlt q y)⟩
  · have e : i = n := by omega
    subst e
    exact .inl ⟨w.stops H q, hd H p⟩
/-- the dict of these codes to their signs -/
def signD (l : List Nat) : List (Key × V) := l.foldl (fun kvs (c : Nat) => putK kvs (.inl (c : Int)) (.str (ofL [c]))) []
theorem signD_len : ∀ (l : List Nat) (kvs : List (Key × V)), (l.foldl (fun kvs (c : Nat) => putK kvs (.inl (c : Int)) (.str (ofL [c]))) kvs).length ≤ kvs.length + l.length
  | [], kvs => Nat.le_refl _
  | c :: r, kvs => by
    have h1 := signD_len r (putK kvs (.inl (c : Int)) (.str (ofL [c])))
    have h2 := length_putK kvs (.inl (c : Int)) (.str (ofL [c]))
    rw [List.foldl_cons, List.length_cons]
    omega
theorem signD_val : ∀ (l : List Nat) (kvs : List (Key × V)) (i : Int), valV (l.foldl (fun kvs (c : Nat) => putK kvs (.inl (c : Int)) (.str (ofL [c]))) kvs) (.inl i) = if 0 ≤ i ∧ i.toNat ∈ l then some (.str (ofL [i.toNat])) else valV kvs (.inl i)
  | [], kvs, i => by simp
  | c :: r, kvs, i => by
    rw [List.foldl_cons, signD_val r, valV_put]
    by_cases h0 : 0 ≤ i ∧ i.toNat ∈ r
    · rw [if_pos h0, if_pos ⟨h0.1, List.mem_cons_of_mem _ h0.2⟩]
    · rw [if_neg h0]
      by_cases h1 : (Sum.inl i : Key) = Sum.inl (c : Int)
      · have e : i = (c : Int) := Sum.inl.inj h1
        subst e
        rw [if_pos rfl, if_pos ⟨Int.natCast_nonneg c, by rw [Int.toNat_natCast]; exact List.mem_cons_self ..⟩, Int.toNat_natCast]
      · rw [if_neg h1, if_neg]
        rintro ⟨a, b⟩
        rcases List.mem_cons.mp b with e | e
        · exact h1 (by rw [show i = (c : Int) by omega])
        · exact h0 ⟨a, e⟩
theorem sign_get (l : List Nat) (i : Int) : valV (signD l) (.inl i) = if 0 ≤ i ∧ i.toNat ∈ l then some (.str (ofL [i.toNat])) else none := by
  unfold signD
  rw [signD_val]
  rfl
/-- slices of any list -/
def cutA {α : Type} (xs : List α) (lo hi : Option Int) : List α := (xs.drop (HT.sIx xs.length 0 lo)).take (HT.sIx xs.length xs.length hi - HT.sIx xs.length 0 lo)
theorem cutI (ns : List Int) (lo hi : Option Int) : cutV (ns.map V.int) lo hi = (cutA ns lo hi).map V.int := by
  unfold cutV cutA
  rw [List.length_map, List.map_take, List.map_drop]
theorem cutA_len {α : Type} (xs : List α) (lo hi : Option Int) : (cutA xs lo hi).length ≤ xs.length := by
  unfold cutA
  rw [List.length_take, List.length_drop]
  omega
theorem cutA_nat {α : Type} (xs : List α) (i j : Nat) (hi : i ≤ xs.length) (hj : j ≤ xs.length) : cutA xs (some (i : Int)) (some (j : Int)) = (xs.drop i).take (j - i) := by
  unfold cutA
  rw [HT.sIx_nat, HT.sIx_nat, Nat.min_eq_left hi, Nat.min_eq_left hj]
theorem cutA_head {α : Type} (xs : List α) (j : Nat) (hj : j ≤ xs.length) : cutA xs none (some (j : Int)) = xs.take j := by
  unfold cutA
  rw [HT.sIx_nat, Nat.min_eq_left hj]
  show (xs.drop 0).take (j - 0) = _
  rw [List.drop_zero, Nat.sub_zero]
theorem cutA_tail {α : Type} (xs : List α) (j : Nat) (hj : j ≤ xs.length) : cutA xs (some (j : Int)) none = xs.drop j := by
  unfold cutA
  rw [HT.sIx_nat, Nat.min_eq_left hj]
  show (xs.drop j).take (xs.length - j) = _
  rw [List.take_of_length_le (by rw [List.length_drop]; exact Nat.le_refl _)]
theorem cutA_last {α : Type} (xs : List α) (lo : Option Int) (n : Nat) (h : xs.length = n + 1) : cutA xs lo (some (-1)) = cutA xs lo (some (n : Int)) := by
  have e : HT.sIx xs.length xs.length (some (-1)) = HT.sIx xs.length xs.length (some (n : Int)) := by
    rw [HT.sIx_nat, h]
    show (if (-1 : Int) < 0 then ((-1 : Int) + ((n + 1 : Nat) : Int)).toNat else min (-1 : Int).toNat (n + 1)) = min n (n + 1)
    have c : (-1 : Int) < 0 := by decide
    rw [if_pos c]
    omega
  unfold cutA
  rw [e]
theorem cutS_ofL (cs : List Nat) (lo hi : Option Int) : cutS (ofL cs) lo hi = ofL (cutA cs lo hi) := by
  have e : (ofL cs).length = cs.length := ofL_len cs
  have e2 : (ofL cs).cps.toList = cs := tl_ofL cs
  unfold cutS cutA
  rw [e, e2]
  rfl
theorem cutA_mid {α : Type} (xs : List α) (i j : Nat) : cutA xs (some (i : Int)) (some (j : Int)) = (xs.drop i).take (j - i) := by
  unfold cutA
  rw [HT.sIx_nat, HT.sIx_nat]
  refine List.ext_getElem? fun k => ?_
  simp only [List.getElem?_take, List.getElem?_drop]
  by_cases h : i + k < xs.length
  · rw [Nat.min_eq_left (show i ≤ xs.length by omega)]
    by_cases h2 : k < j - i
    · rw [if_pos h2, if_pos (by omega)]
    · rw [if_neg h2, if_neg (by omega)]
  · rw [List.getElem?_eq_none (show xs.length ≤ i + k by omega)]
    by_cases h3 : i ≤ xs.length
    · rw [Nat.min_eq_left h3, List.getElem?_eq_none (show xs.length ≤ i + k by omega)]
      split <;> split <;> rfl
    · rw [Nat.min_eq_right (show xs.length ≤ i by omega), List.getElem?_eq_none (show xs.length ≤ xs.length + k by omega)]
      split <;> split <;> rfl
theorem rep_flat (n : Nat) (x : Int) : (List.replicate n [V.int x]).flatten = (List.replicate n x).map V.int := by
  induction n with
  | zero => rfl
  | succ n ih =>
    rw [List.replicate_succ, List.flatten_cons, ih, List.replicate_succ, List.map_cons]
    rfl
/-- the text that a def's first row sets -/
def litOf : List Stmt → Str
  | .Assign _ (.Constant (.str s) _ _) _ :: _ => s
  | _ => ""
theorem atI_get {b : List Int} {i : Nat} (h : i < b.length) : atI (b.map V.int) (i : Int) = some (.int (b.getD i 0)) := by
  refine atI_nat (j := i) ?_
  rw [List.getElem?_map, List.getElem?_eq_getElem h]
  simp [List.getD_eq_getElem?_getD, List.getElem?_eq_getElem h]
end LB

set_option maxRecDepth 100000
set_option maxHeartbeats 4000000
namespace LB
open PySem PySem.W PySem.Calls PyProof.Rows PySem.HandSPX
/-! ### an own error whose __init__ calls super with an f-string of a name and keeps the name -/
def eA (p1 p2 : Pos) : Arguments := { posonlyargs := [], args := [{ arg := "self", annotation := none, pos := p1 }, { arg := "name", annotation := none, pos := p2 }], vararg := none, kwonlyargs := [], kw_defaults := [], kwarg := none, defaults := [] }
def eB (tx : String) (k0 : Nat) (q1 q2 q3 q4 q5 q6 q7 q8 q9 q10 q11 q12 q13 : Pos) : List Stmt :=
  [.Expr (.Call (.Attribute (.Call (.Name "super" q1) [] [] q2) "__init__" q3) [.JoinedStr [.FormattedValue (.Name "name" q4) (-1) none q5, .Constant (.str tx) k0 q6] q7] [] q8) q9,
   .Assign [.Attribute (.Name "self" q10) "name" q11] (.Name "name" q12) q13]
def eS : Scope := { kind := .function, names := [(PySem.Str.ofString "self", .local), (PySem.Str.ofString "name", .local), (PySem.Str.ofString "__class__", .free), (PySem.Str.ofString "super", .globalImplicit)], isGenerator := false, isCoroutine := false, more := [] }
abbrev veMro : List Value := [.type "ValueError", .type "Exception", .type "BaseException", .type "object"]
/-- what the written part says of the class named n, at C, and of its __init__, at fI -/
structure Oor (K : Frag) (mg : Str → Option Value) (prog : Program) (n : Str) (C fI cc cda : Addr) : Prop where
  gC : mg n = some (.ref C)
  cls : ∃ nm q N bs bm sn sub ab col dd k0 k1 k2 k3 k5, K.lookup C = some (excClassObj nm q C N bs bm true sn sub ab col dd k0 k1 k2 k3 k5 "ValueError.__new__") ∧ refsVE bm = true
  sa : findIn K (.ref C) "__setattr__" = some (some (.builtin "object.__setattr__"))
  ga : findIn K (.ref C) "__getattribute__" = some (some (.builtin "BaseException.__getattribute__"))
  gg : findIn K (.ref C) "__getattr__" = some none
  noN : findIn K (.ref C) "name" = some none
  iC : findIn K (.ref C) "__init__" = some (some (.ref fI))
  tC : typeIn K (.ref fI) = some (.type "function")
  kC : keepIn K (.ref C) = true
  exC : subIn K (.ref C) (.type "BaseException") = some true
  veC : subIn K (.ref C) (.type "ValueError") = some true
  tyC : typeIn K (.ref C) = some (.type "type")
  hdC : hasDictIn K C = true
  me : mroIn K C (.ref C) = some true
  up : ks_superIn K C C "__init__" = some (some (.builtin "ValueError.__init__"))
  made : excInitIn K C veMro "ValueError.__new__" = true
  op : nsIn K cStatics "thirdparty.any" = some none
  mgS : mg "super" = none
  top : (prog.main.scope.names.lookup ("super" : Str)).isSome = false
  cell : ∃ (cl : Value) (cld : Option Addr) (csl : Array (Option Value)), K.lookup cc = some ⟨cl, cld, .cell (some (.ref C)), csl⟩
  code : ∃ (ccl : Value) (cdd : Option Addr) (vs : Array Value) (ccs : Array (Option Value)) (file : Str) (tf : Tok), K.lookup cda = some ⟨ccl, cdd, .fields vs, ccs⟩ ∧ vs[2]? = some (.str file tf) ∧ ((prog.main.file : Str) == file) = true
  fn : ∃ (oc : Value) (od : Option Addr) (q : Str) (doc pm : Value) (an : Option Addr) (ct : Value) (osl : Array (Option Value)) (tx : String) (k0 : Nat) (p1 p2 q1 q2 q3 q4 q5 q6 q7 q8 q9 q10 q11 q12 q13 : Pos),
    K.lookup fI = some ⟨oc, od, .func (ksFn "__init__" q (eA p1 p2) (eB tx k0 q1 q2 q3 q4 q5 q6 q7 q8 q9 q10 q11 q12 q13) eS .none .none doc pm an (.ref cda) ct cc), osl⟩ ∧ codeIn K (.ref cda) q = true ∧ (Str.ofString tx).length ≤ 1000 ∧ (q3.endLine == q8.line) = true
/-- what __init__ leaves of a fresh error at x -/
structure ErrEnd (h h' : Heap) (x C dx : Addr) (v : Value) : Prop where
  keep : ∀ b o, b ≠ x → h.get? b = some o → h'.get? b = some o
  obj : ∃ t1 : Addr, h'.get? x = some { cls := .ref C, dict := some dx, data := .fields #[.ref t1, .none, .none, .none, .bool false, .none] }
  dbig : h.objs.size ≤ dx
  dne : dx ≠ x
  ns : h'.Ns1 dx (fun y => if y = "name" then some v else none)
section
variable {prog : Program} {w : World} {A : Around} {R : Result → Shared → Prop} {s : Shared} {K : Frag} {mg : Str → Option Value} {n : Str} {C fI cc cda : Addr}
theorem err_init (T : Oor K mg prog n C fI cc cda) {base : Heap} {x t0 : Addr} {z : Str} {zt : Tok} (kb : K.In base) (gb : base.Ns mainGlobals mg) (bb : ∃ mb, base.Ns builtinsNs mb ∧ ∀ y : Str, y ≠ "__name__" → mb y = bootBuiltins y)
    (bk : ∀ b o, base.get? b = some o → s.heap.get? b = some o) (bsz : base.objs.size ≤ s.heap.objs.size) (nx : base.get? x = none) (lim : s.heap.NoLimit) (hx : s.heap.get? x = some (excO C t0)) (hz : z.length ≤ 1000) (room : A.depth < recursionLimit)
    (hq : ∀ h' tk dx zt', ErrEnd s.heap h' x C dx (.str z zt') → R (.ok (.ret .none)) { s with heap := h', toks := tk }) :
    codeAny (model prog w) A (.call (.ref fI) ⟨[.ref x, .str z zt], []⟩) R s := by
  obtain ⟨oc, od, q, doc, pm, an, ct, osl, tx, k0, p1, p2, q1, q2, q3, q4, q5, q6, q7, q8, q9, q10, q11, q12, q13, ho, hcd, htx, hln⟩ := T.fn
  obtain ⟨nm, qn, N0, bs, bm, sn, sub, ab, col, dd, e0, e1, e2, e3, e5, hC, hbm⟩ := T.cls
  have hcl : clsIn K C = some { name := nm, bases := bs, mro := .ref C :: bm, ns := N0, qualname := qn, hasDict := true, slotNames := sn, subclasses := sub, abstract := ab, collection := col, hasDel := false } := by unfold clsIn; rw [hC] <;> rfl
  obtain ⟨cl, cld, csl, hcell⟩ := T.cell
  obtain ⟨ccl, cdd, vs, ccs, file, tf, hcode, hvs, hfile⟩ := T.code
  obtain ⟨mb, hmb, hboot⟩ := bb
  have X : K.In s.heap := kb.keeps bk
  obtain ⟨hp, g, dr, tk, os⟩ := s
  refine ks_codeAny_call_defAt (fd := ksFn "__init__" q (eA p1 p2) (eB tx k0 q1 q2 q3 q4 q5 q6 q7 q8 q9 q10 q11 q12 q13) eS .none .none doc pm an (.ref cda) ct cc) (body := eB tx k0 q1 q2 q3 q4 q5 q6 q7 q8 q9 q10 q11 q12 q13) (binds := [("self", .ref x), ("name", .str z zt)])
    room (X _ _ ho) rfl lim (codeRec_of X hcd) rfl (BindsTo.of_eq (by first | rfl | with_unfolding_all rfl)) (show ∀ y ∈ eS.names, y.2 ≠ .cell from by decide +kernel) (show ∀ y ∈ [(("self" : Str), Value.ref x), (("name" : Str), Value.str z zt)], eS.names.lookup y.1 = some .local from locs rfl) (fun h₁ hns hk₁ => ?_) rfl rfl rfl
  have X₁ : K.In h₁ := X.keeps hk₁
  have hx₁ := hk₁ _ _ hx
  have hxL : x ≠ hp.objs.size := Nat.ne_of_lt (Heap.lt_size hx)
  have inG : ∀ b o, base.get? b = some o → (hp.hide x).get? b = some o := fun b o e => (Heap.hide_ne hp (fun z => by rw [z, nx] at e; cases e)).trans (bk b o e)
  have kG : K.In (hp.hide x) := kb.keeps inG
  have F₁ : Fr (hp.hide x) hp.objs.size h₁ _ := ⟨hns, fun b o e => hk₁ b o (Heap.of_hide e), Nat.le_of_eq (Heap.hide_size hp x)⟩
  have N₁ : News (hp.hide x) hp.objs.size h₁ [(x, excObj C t0 none .none)] := fun p hp' => by
    have e := List.mem_singleton.mp hp'
    subst e
    exact ⟨hx₁, hxL, Heap.hide_self hp x⟩
  refine ks_wpAt_execs_cons (ks_wpAt_Expr_any ?_)
  refine ks_wpAt_MethodCall (pl := (do return (← importBound _ _).getD true)) ?_ (he := by
    show (do
      let ov ← attributeBase _ _ _ _
      standAt q3.atName
      methodCall _ _ q3 q8 _ ov _ _ _) = _
    simp only [methodCall, methodCallPos, hln, Bool.or_true, if_true, pure_bind]
    rfl)
  refine ks_wpAt_super_base (f := fI) (cc := cda) (by first | rfl | decide +kernel) (by first | rfl | decide +kernel) (by decide +kernel) rfl (X₁ _ _ ho) rfl rfl rfl (X₁ _ _ hcode) rfl hvs hfile T.top ?_
  refine ks_loadName_global rfl (by first | rfl | decide +kernel) (loadGlobal_builtin (gb.keeps fun b o e => F₁.keep b o (inG b o e)) T.mgS (hmb.keeps fun b o e => F₁.keep b o (inG b o e)) ((hboot _ (by decide +kernel)).trans PyProof.Rows.Boot.«super») ⟨rfl, ?_⟩)
  refine wpAny_loadName_free rfl (by first | rfl | decide +kernel) rfl ⟨_, X₁ _ _ hcell, rfl⟩ ?_
  refine wpAny_loadName_local rfl (by first | rfl | decide +kernel) hns (show _ = some (Value.ref x) from by first | rfl | with_unfolding_all rfl | kernel_rfl) ?_
  refine ks_wpAny_isType_cls (X₁ _ _ hC) rfl ⟨rfl, ?_⟩
  refine ks_wpAny_call_super (X₁ _ _ hC) rfl hx₁ rfl (fun c e => nomatch e) (looks_mroIn X₁ T.me) (fun h₂ e₂ k₂ => ?_)
  obtain ⟨F₂, N₂, l₂⟩ := ks_newsPush (s := ⟨h₁, g, dr, tk + 2, os⟩) F₁ N₁ rfl e₂ k₂
  refine kxs_method kxs_ValueError F₂ kG N₂ (List.mem_cons_self ..) (InstAt.of_exc0 N₂ (List.mem_cons_of_mem _ (List.mem_cons_self ..))) T.op T.up T.veC (by decide +kernel) (fun u h₃ F₃ N₃ l₃ => ?_)
  refine kxs_callWith1 N₃ (List.mem_cons_self ..) ?_ (he := rfl) (hplain := rfl)
  show wpAny _ _ (spliced ((false, eval (.JoinedStr [.FormattedValue (.Name "name" q4) (-1) none q5, .Constant (.str tx) k0 q6] q7) (ksEnv q eS hp.objs.size fI (.ref cda) cc)) :: backTo q8 (starEach [] (ksEnv q eS hp.objs.size fI (.ref cda) cc)))) _ _ _
  refine Calls.spliced_cons (wpAny_JoinedStr ?_)
  have so_u : hp.objs.size ≠ x := Ne.symm hxL
  have ux : u ≠ x := fun z => by
    have := l₃ (x, excObj C t0 none .none) (List.mem_cons_of_mem _ (List.mem_cons_self ..))
    rw [z] at this
    exact absurd this (Nat.lt_irrefl _)
  have sx : h₁.objs.size ≠ x := fun z => by
    have := l₂ (x, excObj C t0 none .none) (List.mem_cons_self ..)
    rw [z] at this
    exact absurd this (Nat.lt_irrefl _)
  have U : UpdF x (excObj C t0 none .none) [(u, kxs_mw "ValueError.__init__" x), (h₁.objs.size, ks_superObj C x C), (x, excObj C t0 none .none)] (fun o' => (u, kxs_mw "ValueError.__init__" x) :: (h₁.objs.size, ks_superObj C x C) :: (x, o') :: []) :=
    .tail ux (.tail sx (.head (by simp)))
  show Joins _ _ _ (eval (.FormattedValue (.Name "name" q4) (-1) none q5) (ksEnv q eS hp.objs.size fI (.ref cda) cc) :: evalEach [.Constant (.str tx) k0 q6] (ksEnv q eS hp.objs.size fI (.ref cda) cc)) Str.empty _ _
  have hz2 : z.length ≤ sizeLine := Nat.le_trans hz (by decide)
  have len0 : (Str.empty ++ z).length ≤ sizeLine := by
    have e1 : (Str.empty : Str).length = 0 := rfl
    rw [Str.length_append, e1, sizeLine_eq]
    omega
  refine wpAny_FormattedValue_plain (ESX.ldL (v := .str z zt) F₃.ns (by first | rfl | with_unfolding_all rfl | kernel_rfl) ?_)
  refine wpAny_formatField_str ⟨_, _, rfl, len0, ?_⟩ ⟨_, _, rfl, len0, ?_⟩ hz2
  all_goals
    have e0 : evalEach [.Constant (.str tx) k0 q6] (ksEnv q eS hp.objs.size fI (.ref cda) cc) = [eval (.Constant (.str tx) k0 q6) (ksEnv q eS hp.objs.size fI (.ref cda) cc)] := by first | rfl | simp [evalEach]
    rw [e0]
    have len : (Str.empty ++ z ++ (tx : Str)).length ≤ sizeLine := by
      have e1 : (Str.empty : Str).length = 0 := rfl
      rw [Str.length_append, Str.length_append, e1, sizeLine_eq]
      have := htx
      omega
    refine wpAny_Constant_str ⟨_, _, rfl, len, ?_⟩
    refine ⟨len, Calls.spliced_nil ⟨kxs_at N₃ (List.mem_cons_self ..), ?_⟩⟩
    refine kxs_call F₃ kG N₃ PySem.F.excBase_ValueError T.made (List.mem_cons_self ..) U (by show 1 ≤ sizeLine; decide) (fun t1 h₄ F₄ N₄ l₄ => ?_)
    have hx₄ : h₄.get? x = some (excObj C t1 none .none) := (N₄ (x, excObj C t1 none .none) (by simp)).1
    have X₄ : K.In h₄ := kG.keeps F₄.keep
    refine wpAt_of_wpAny ?_
    refine wpAny_execs_cons (plainObj_wpAny_Assign_Attribute ?_)
    refine ESX.ldL (v := .str z zt) F₄.ns (by first | rfl | with_unfolding_all rfl | kernel_rfl) (ESX.ldL (v := .ref x) F₄.ns (by first | rfl | with_unfolding_all rfl | kernel_rfl) ?_)
    refine set_plain X₄ (ox := excO C t1) (od := none) ⟨hx₄, rfl, rfl, trivial⟩ T.sa ?_
    refine exc_osa X₄ hx₄ hcl (show refsVE (.ref C :: bm) = true from hbm) rfl T.noN (fun h₅ tk₅ dx k₅ dn dne hx₅ hn₅ => ?_)
    show wpAny _ _ (execs _ _) _ _ _
    refine wpAny_execs_nil (hq h₅ tk₅ dx zt ⟨fun b o hb e => k₅ b o hb (F₄.keep b o ((Heap.hide_ne hp hb).trans e)), ⟨t1, hx₅⟩, ?_, dne, hn₅⟩)
    refine Nat.le_trans ?_ dn
    obtain ⟨oL, es, ep, hL, _⟩ := F₄.ns
    exact Nat.le_of_lt (Heap.lt_size hL)
end
end LB

set_option maxRecDepth 100000
set_option maxHeartbeats 4000000
namespace LB
open PySem PySem.W PySem.Calls PyProof.Rows PySem.HandSPX
/-- a made error at e, its own dict at d -/
structure ErrMade (h h' : Heap) (e C d : Addr) (v : Value) : Prop where
  keep : ∀ b o, h.get? b = some o → h'.get? b = some o
  new : h.objs.size ≤ e
  obj : ∃ oe vs, h'.get? e = some oe ∧ oe.cls = .ref C ∧ oe.dict = some d ∧ oe.data = .fields vs ∧ vs[1]? = some .none
  dbig : h.objs.size ≤ d
  dne : d ≠ e
  ns : h'.Ns1 d (fun y => if y = "name" then some v else none)
section
variable {prog : Program} {w : World} {A : Around} {R : Result → Shared → Prop} {s : Shared} {K : Frag} {mg : Str → Option Value} {n : Str} {C fI cc cda : Addr}
theorem err_made (T : Oor K mg prog n C fI cc cda) {base : Heap} {z : Str} {zt : Tok} (kb : K.In base) (gb : base.Ns mainGlobals mg) (bb : ∃ mb, base.Ns builtinsNs mb ∧ ∀ y : Str, y ≠ "__name__" → mb y = bootBuiltins y)
    (bk : ∀ b o, base.get? b = some o → s.heap.get? b = some o) (bsz : base.objs.size ≤ s.heap.objs.size) (lim : s.heap.NoLimit) (hz : z.length ≤ 1000) (room : A.depth + 1 < recursionLimit)
    (hq : ∀ h' tk e d zt', ErrMade s.heap h' e C d (.str z zt') → R (.ok (.ret (.ref e))) { s with heap := h', toks := tk }) :
    codeAny (model prog w) A (.call (.ref C) ⟨[.str z zt], []⟩) R s := by
  obtain ⟨nm, q, N, bs, bm, sn, sub, ab, col, dd, k0, k1, k2, k3, k5, hC, hbm⟩ := T.cls
  obtain ⟨hp, g, dr, tk, os⟩ := s
  have X : K.In hp := kb.keeps bk
  have k : ∀ b o, hp.get? b = some o → ((hp.push (kdv_tup [.str z zt])).push (excO C hp.objs.size)).get? b = some o := fun b o e => Heap.get?_push_of_some _ (Heap.get?_push_of_some _ e)
  have hget : ((hp.push (kdv_tup [.str z zt])).push (excO C hp.objs.size)).get? (hp.objs.size + 1) = some (excO C hp.objs.size) := by heap_get
  have nx : base.get? (hp.objs.size + 1) = none := Heap.get?_none_of_le (Nat.le_trans bsz (Nat.le_succ _))
  refine call_own PySem.F.excBase_ValueError (fun Y => refsVE_contains Y bm hbm) (X _ _ hC) (looks_findIn X T.iC) (fun self => bind_fn X self T.tC) (by show 1 ≤ sizeLine; decide) ?_
  refine err_init (s := ⟨(hp.push (kdv_tup [.str z zt])).push (excO C hp.objs.size), g, dr, tk, os⟩) T kb gb bb (fun b o e => k b o (bk b o e)) (Nat.le_trans (show base.objs.size ≤ hp.objs.size from bsz) (by simp only [Heap.size_push]; omega)) nx (lim.keeps k) hget hz ?_ fun h' tk' dx zt' W => ?_
  · show A.depth + 1 < recursionLimit
    exact room
  · obtain ⟨t1, hx⟩ := W.obj
    have old : ∀ b o, hp.get? b = some o → h'.get? b = some o := fun b o e => W.keep b o (Nat.ne_of_lt (Nat.lt_succ_of_lt (Heap.lt_size e))) (k b o e)
    have dn : hp.objs.size ≤ dx := by
      have y := W.dbig
      simp only [Heap.size_push] at y
      omega
    exact ⟨rfl, hq h' tk' (hp.objs.size + 1) dx zt' ⟨old, Nat.le_succ _, ⟨_, _, hx, rfl, rfl, rfl, rfl⟩, dn, W.dne, W.ns⟩⟩
end
end LB
namespace LB
open PySem PySem.Spec PyProof.Rows L2
theorem relO_name {v : V} {v' : Value} (r : RelV v v') (f : Str) : RelO (List.lookup f [(("name" : Str), v)]) (if f = "name" then some v' else none) := by
  by_cases hw : f = "name"
  · subst hw
    rw [if_pos rfl]
    have q : List.lookup ("name" : Str) [(("name" : Str), v)] = some v := by simp [List.lookup]
    rw [q]
    exact r
  · rw [if_neg hw]
    have qw : (f == ("name" : Str)) = false := by simpa using hw
    have q2 : List.lookup f [(("name" : Str), v)] = none := by simp [List.lookup, qw]
    rw [q2]
    trivial
section
variable {X : Cx} {n : Str} {C fI cc cda : Addr}
/-- Err(e), e a text of at most 1000 signs -/
def tMkErr (C : Addr) (ta : TA) : L2.St → Hp → XK → Prop := fun σ H Q => ta σ H fun vs H1 => ∃ z : Str, vs = [.str z] ∧ z.length ≤ 1000 ∧ ∀ d, H1 d = none → Q (.ref C) (some d) (upd H1 d (.xd [(("name" : Str), .str z)]))
theorem pmk_err {a : Expr} {ta : TA} {p pos : Pos} {k : Nat} (T : Oor X.K X.mg X.prog n C fI cc cda) (hr : Room k X.A) (ha : PA X [a] ta) (hg : Gl X n) (hd : (n == ("__debug__" : Str)) = false)
    (he : starEach (a :: []) X.env = (false, eval a X.env) :: starEach [] X.env := by rfl) (hpl : (backTo pos (starEach [] X.env)).any (·.1) = false := by rfl) :
    PMk X (.Call (.Name n p) [a] [] pos) (tMkErr C ta) := by
  intro pins s σ H Q I h
  refine wpAny_Call_Name_kw (ld_glob I hg T.gC ?_ hd)
  refine PySem.W.callWith_K (h₀ := X.base) I.ok.mod.kin T.kC (thn (ha.run pos pins s σ H _ I h) fun us s1 hh => ?_) he hpl
  obtain ⟨vs, H1, I1, r1, z, ev, hz, q1⟩ := hh
  subst ev
  refine ⟨I1.kIn, ?_⟩
  cases r1 with
  | cons rv rn =>
    rename_i v' us'
    cases rn
    obtain ⟨zt, rfl⟩ := rv
    show wpAny _ _ (call (.ref C) [.str z zt]) _ _ _
    have hlim := I1.nolimit
    have kin := I1.ok.mod
    have bk := I1.bk
    have bsz : X.base.objs.size ≤ s1.heap.objs.size := Nat.le_trans I1.ok.bsz I1.sz
    obtain ⟨hp, g, dr, tk, os⟩ := s1
    obtain ⟨m1, m2, m3, m4⟩ := kin
    refine wpAny_call (err_made T m1 m2 m3 bk bsz hlim hz (by have := hr.dp; omega) fun h' tk' e d zt' M => ?_)
    show MkP X pins σ Q (.ref e) ⟨h', g, dr, tk', os⟩
    obtain ⟨oe, fv, hoe, hc, hd, hdat, h1⟩ := M.obj
    have hns := M.ns
    obtain ⟨G', g1, g2⟩ := restrict h' fun b => decide (b ≠ e)
    have gk : ∀ b, b ≠ e → G'.get? b = h'.get? b := fun b hb => g1 b (decide_eq_true hb)
    have ge : G'.get? e = none := g2 e (by simp)
    have old : ∀ b o, hp.get? b = some o → G'.get? b = some o := fun b o q => (gk b (Nat.ne_of_lt (Nat.lt_of_lt_of_le (Heap.lt_size q) M.new))).trans (M.keep b o q)
    have ob : ObjOk X.prog X.w (upd H1 d (.xd [(("name" : Str), .str z)])) G' d (.xd [(("name" : Str), .str z)]) :=
      ⟨_, hns.at (fun o q => (gk d M.dne).trans q), fun f => relO_name (v := .str z) (v' := .str z zt') ⟨zt', rfl⟩ f⟩
    have J : Inv X pins σ (upd H1 d (.xd [(("name" : Str), .str z)])) ⟨G', g, dr, tk', os⟩ := I1.laid (t' := tk') old M.dbig ob
    refine ⟨e, oe, fv, ⟨G', g, dr, tk', os⟩, _, .ref C, some d, rfl, J, fun b o q => ?_, ge, hoe, ⟨hc, hd⟩, hdat, h1, ?_, rfl, I1.bare, raises_own T.exC T.tyC, q1 d (I1.hok.fresh M.dbig)⟩
    · by_cases hb : b = e
      · have q' : G'.get? b = some o := q
        rw [hb, ge] at q'; cases q'
      · exact (gk b hb).symm.trans q
    · rw [upd_ne (Ne.symm M.dne)]
      exact I1.hok.fresh M.new
/-- raise Err(e) -/
def tRaiseErr (C : Addr) (W : WX) (ta : TA) : TS := fun _ σ H => tMkErr C ta σ H fun cls d H' => W cls d σ H'
theorem ps_raiseErr {a : Expr} {ta : TA} {W : WX} {p pos pos2 : Pos} {k : Nat} (hc : X.calm = true) (T : Oor X.K X.mg X.prog n C fI cc cda) (hr : Room k X.A) (tk : Takes X W) (ha : PA X [a] ta) (hg : Gl X n) (hd : (n == ("__debug__" : Str)) = false)
    (he : starEach (a :: []) X.env = (false, eval a X.env) :: starEach [] X.env := by rfl) (hpl : (backTo pos (starEach [] X.env)).any (·.1) = false := by rfl) :
    PS X (.Raise (some (.Call (.Name n p) [a] [] pos)) none pos2) (tRaiseErr C W ta) := ps_raise hc tk (pmk_err T hr ha hg hd he hpl)
/-- e.name, e the error that the suite holds (at a; its class cls, its dict d) -/
def tErrName (C : Addr) (a : Addr) (cls : Value) (d : Option Addr) (te : TE) : TE := fun σ H Q => te σ H fun x H1 => x = .ref a ∧ cls = .ref C ∧ ∃ (dd : Addr) (v : V), d = some dd ∧ H1 dd = some (.xd [(("name" : Str), v)]) ∧ Q v H1
theorem pe_errName {a : Addr} {oe : Obj} {cls : Value} {d : Option Addr} {pn : List (Addr × Obj)} {e : Expr} {te : TE} {pos : Pos} (T : Oor X.K X.mg X.prog n C fI cc cda) (hz : Zc cls d oe) (hf : ∃ vs, oe.data = .fields vs) (he : PE (X.suite a ((a, oe) :: pn)) e te)
    (hb : attributeBase e "name" X.env (eval e X.env) = eval e X.env := by rfl) :
    PE (X.suite a ((a, oe) :: pn)) (.Attribute e "name" pos) (tErrName C a cls d te) := by
  refine ⟨fun pins s σ H Q I h => ?_⟩
  refine attr_of hb (thn (he.run pins s σ H _ I h) fun u s1 hh => ?_)
  obtain ⟨x, H1, I1, rx, ex, ec, dd, v, ed, ea, q⟩ := hh
  subst ex
  obtain rfl : u = Value.ref a := rx
  subst ec
  subst ed
  obtain ⟨ha, _⟩ := I1.pin (a, oe) (List.mem_append_left _ List.mem_cons_self)
  obtain ⟨vs, hd⟩ := hf
  have hx : ObjOk X.prog X.w H1 s1.heap dd (.xd [(("name" : Str), v)]) := I1.hok dd _ ea
  obtain ⟨mA, hns, hr⟩ := hx
  obtain ⟨od, ho, hl⟩ := lookIn_ns hns
  have l : List.lookup ("name" : Str) [(("name" : Str), v)] = some v := by simp [List.lookup]
  obtain ⟨u, hu, ru⟩ := RelO.some_of (v := v) (o := mA "name") (by rw [← l]; exact hr "name")
  have J : PySem.W.InstAt s1.heap a oe C (some od) := ⟨ha, hz.1, by unfold PySem.W.notCls; rw [hd] <;> rfl, by rw [hz.2]; exact ho⟩
  exact HandSPX.exc_get I1.kIn J T.ga T.gg T.exC (PySem.W.findObj_own T.hdC T.noN rfl (by rw [hl, hu])) (handed_of ru) ⟨v, H1, I1.tok _, ru, q⟩
/-- isinstance(e, D), e such an error, D a class: told of K -/
structure IsF (K : PySem.W.Frag) (C : Addr) : Prop where
  ha : PySem.W.findIn K (.ref C) "__class__" = some (some (.builtin "object.__class__"))
  hn : PySem.W.specialIn K (.builtin "object.__class__") "__get__" = some (some (.builtin "getset_descriptor.__get__"))
  ht : PySem.W.takesIn K (.builtin "object.__class__") = some true
  hm : PySem.W.mroIn K C (.type "object") = some true
def rIsErr (K : PySem.W.Frag) (C a : Addr) (cls : Value) (d : Option Addr) : List V → Hp → VK → Prop := fun xs H Q => ∃ (D dd : Addr) (b : Bool) (fs : List (Str × V)), xs = [.ref a, .ref D] ∧ cls = .ref C ∧ d = some dd ∧ PySem.W.kitOne K (.ref C) (.ref D) = some b ∧ H dd = some (.xd fs) ∧ Q (.bl b) H
theorem call_isErr {a : Addr} {cls : Value} {d : Option Addr} {oe : Obj} {pn : List (Addr × Obj)} (T : Oor X.K X.mg X.prog n C fI cc cda) (F : IsF X.K C) (hz : Zc cls d oe) (hf : ∃ vs, oe.data = .fields vs) : CallR (X.suite a ((a, oe) :: pn)) (.builtin "isinstance") (rIsErr X.K C a cls d) := by
  intro pins s σ H xs us Q I r h
  obtain ⟨D, dd, b, fs, rfl, rfl, rfl, e, ea, q⟩ := h
  match us, r with
  | _, .cons rx (.cons rt .nil) =>
    cases rx
    cases rt
    obtain ⟨hget, _⟩ := I.pin (a, oe) (List.mem_append.mpr (.inl List.mem_cons_self))
    obtain ⟨vs, hv⟩ := hf
    have hx : ObjOk X.prog X.w H s.heap dd (.xd fs) := I.hok dd _ ea
    obtain ⟨mA, hns, hr⟩ := hx
    obtain ⟨od, ho, hl⟩ := lookIn_ns hns
    have J : PySem.W.InstAt s.heap a oe C (some od) := ⟨hget, hz.1, by unfold PySem.W.notCls; rw [hv] <;> rfl, by rw [hz.2]; exact ho⟩
    obtain ⟨cd, hcd, _⟩ := PySem.W.any_some T.hdC
    exact PySem.W.kia_one (PySem.W.kitx_exc (od := some od) (ox := oe) (by rw [hcd]; rfl) T.ga T.gg T.exC F.ha F.hn F.ht F.hm) I.kIn J e (fun z => nomatch z) fun tk => ⟨.bl b, H, I.kept (t' := tk) fun _ _ z => z, rfl, q⟩
end
end LB

set_option maxRecDepth 100000
set_option maxHeartbeats 2000000
namespace LB
open PySem PySem.Spec PyProof.Rows L2
/-! ### what is never reached; promises of defs that raise nothing here -/
def tsNo : TS := fun _ _ _ => False
theorem pss_no {X : Cx} {st : List Stmt} : PSs X st tsNo := ⟨fun _ _ _ _ _ _ h => h.elim⟩
theorem ps_no {X : Cx} {st : Stmt} : PS X st tsNo := ⟨fun _ _ _ _ _ _ h => h.elim⟩
theorem pe_no {X : Cx} {e : PySem.Expr} : PE X e (fun _ _ _ => False) := ⟨fun _ _ _ _ _ _ h => h.elim⟩
theorem pg_tupK {X : Cx} {K : PySem.W.Frag} {pos : Pos} {es : List PySem.Expr} {k : Nat} {t : TGs} {n : Nat} (hK : X.K = K) (hc : X.calm = true) (h : PGs X es t) (h1 : (assignEach es X.env).length = n := by rfl) (h2 : List.findIdx? (fun x => x.fst) (assignEach es X.env) = none := by rfl) :
    PG X (.Tuple es k pos) (gTup K n t) := by
  subst hK
  exact pg_tup hc h h1 h2
section
variable {P : Program} {w : World} {K : PySem.W.Frag} {mg : Str → Option Value} {base : Heap} {k : Nat} {f : Addr} {fd : FuncData} {ps : List Str} {sp sp' : Sp}
theorem fn_calm (F : FnOk P w K mg base (L2.CX P w) k f fd ps sp) (h : ∀ vs H Q E, sp' vs H Q E → sp vs H Q (fun _ _ _ => False)) : FnOk P w K mg base CX0 k f fd ps sp' :=
  ⟨fun vs H Q E q => F.len vs H Q _ (h _ _ _ _ q), fun A outer s H args us vs Q E hr he hb hv hs => codeAny_mono (F.run A outer s H args us vs Q _ hr he hb hv (h _ _ _ _ hs)) fun r s' z => by
    match r, z with
    | .ok (.ret u), z => exact z
    | .error e, ⟨_, _, _, _, _, _, _, _, _, _, _, _, z⟩ => exact z.elim⟩
end
end LB

set_option maxRecDepth 100000
set_option maxHeartbeats 2000000
namespace LB
open PySem PySem.Spec PyProof.Rows L2
def top (i : Nat) : Stmt := PySem.Challenge.pw_asforetold_k43_records_in_pieces.main.body.getD i (.Pass ⟨0, 0, 0, 0⟩)
abbrev sEncR : Stmt := top 12
abbrev sEncP : Stmt := top 13
abbrev sDecP : Stmt := top 14
abbrev sEncH : Stmt := top 15
abbrev sDecH : Stmt := top 16
abbrev sMarks : Stmt := top 17
abbrev sZeros : Stmt := top 18
abbrev sCell : Stmt := top 20
abbrev sDigits : Stmt := top 21
abbrev sDraw : Stmt := top 22
abbrev sPieces : Stmt := top 23
abbrev sStored : Stmt := top 24
abbrev sEncoded : Stmt := top 25
abbrev sLaw : Stmt := top 26
end LB

set_option maxRecDepth 100000
set_option maxHeartbeats 4000000
namespace LB
open PySem PySem.Spec PyProof.Rows L2
/-! ### the helpers of a law -/
/-- built-ins' names that the module leaves free -/
structure Names (mg : Str → Option Value) : Prop where
  len : mg "len" = none
  range : mg "range" = none
  int : mg "int" = none
  repr : mg "repr" = none
section
variable {P : Program} {w : World} {K : PySem.W.Frag} {mg : Str → Option Value} {base : Heap}
/-- some int comes back -/
def spCellL (K : PySem.W.Frag) : Sp := fun vs H Q _ => ∃ (a : Addr) (ns : List Int) (k : Int), vs = [.ref a, .int k] ∧ SqL K H a (ns.map V.int) ∧ 0 ≤ k ∧ ∀ c : Int, Q (.int c) H
theorem scCell : FnScope ["script", "k"] ["script", "k"] (defScope sCell) := ⟨rfl, rfl, rfl, by decide +kernel, rfl, by decide +kernel, by decide +kernel⟩
theorem ok_cell {f : Addr} {fd : FuncData} (F : Fun K "_law_cell" "_law_cell" sCell f fd) (M : Names mg) : FnOk P w K mg base CX0 1 f fd ["script", "k"] (spCellL K) := by
  refine F.ok scCell (fun vs H Q E h => ?_) (fun cdv A outer s H vs Q E hr h => ?_)
  · obtain ⟨a, ns, k, rfl, _⟩ := h
    rfl
  · obtain ⟨a, ns, k, rfl, hS, h0, q⟩ := h
    refine ⟨_, (pss_cons (ps_if (pt_cmpR op_lt (pv 1) (pe_callB call_len_seq (by rfl) M.len PySem.boot_len (pa_cons (pv 0) pa_nil)) (nomark _)) (pss_one (ps_ret (pe_ix ix_list (pv 0) (pv 1) (fun _ _ => rfl)))) pss_nil)
        (pss_one (ps_ret pe_int))), ?_⟩
    refine ⟨_, rfl, _, rfl, a, _, rfl, .inl hS, _, _, rfl, rfl, _, rfl, ?_⟩
    refine ite2 (fun c => ?_) (fun c => q 0)
    have lt := of_decide_eq_true c
    rw [List.length_map] at lt
    obtain ⟨j, rfl⟩ : ∃ j : Nat, k = (j : Int) := ⟨k.toNat, by omega⟩
    have hj : j < ns.length := by omega
    exact ⟨_, rfl, _, rfl, a, _, _, _, rfl, rfl, hS, atI_nat (v := V.int ns[j]) (by rw [List.getElem?_map, List.getElem?_eq_getElem hj]; rfl), q _⟩
/-- a number of three digits at most -/
def Dig (i : Int) : Prop := 0 ≤ i ∧ i < 1000
/-- a new list of at most 63 * 60 such numbers -/
def spDigits (K : PySem.W.Frag) : Sp := fun vs H Q _ => ∃ (a : Addr) (ns : List Int) (i j : Int), vs = [.ref a, .int i, .int j] ∧ SqL K H a (ns.map V.int) ∧ 0 ≤ i ∧ i ≤ j ∧ j ≤ 63 ∧
  ∀ (ds : List Int) (H' : Hp) (p : Addr), Same H H' → H p = none → H' p = some (.lst (ds.map V.int)) → (∀ d ∈ ds, Dig d) → ds.length ≤ 3780 → Q (.ref p) H'
theorem scDigits : FnScope ["script", "first", "last", "digits", "k", "cell", "turn", "seed"] ["script", "first", "last"] (defScope sDigits) := ⟨rfl, rfl, rfl, by decide +kernel, rfl, by decide +kernel, by decide +kernel⟩
theorem same_upd {H H' : Hp} {p : Addr} {o : HO} (e : Same H H') (n : H p = none) : Same H (upd H' p o) := fun b u q => by
  rw [upd_ne (ne_of_none q n)]
  exact e b u q
theorem dig_more {c : Int} {ds : List Int} (h : ∀ d ∈ ds, Dig d) : ∀ d ∈ ds ++ [c % 1000], Dig d := by
  intro d hd
  rcases List.mem_append.mp hd with h1 | h1
  · exact h d h1
  · rw [List.mem_singleton.mp h1]
    exact ⟨Int.emod_nonneg _ (by decide), Int.emod_lt_of_pos _ (by decide)⟩
theorem lst_more {ds : List Int} {c : Int} : HO.lst (ds.map V.int ++ [V.int c]) = HO.lst ((ds ++ [c]).map V.int) := by rw [List.map_append] <;> rfl
theorem small_line {n : Nat} (h : n ≤ 4000) : n < sizeLine := Nat.lt_of_le_of_lt h (by decide)
theorem ok_digits {f fC : Addr} {fd fdC : FuncData} (F : Fun K "_law_digits" "_law_digits" sDigits f fd) (M : Names mg) (FC : Fun K "_law_cell" "_law_cell" sCell fC fdC) (mCell : mg "_law_cell" = some (.ref fC)) (bCell : Binds K fdC ["script", "k"] []) :
    FnOk P w K mg base CX0 2 f fd ["script", "first", "last"] (spDigits K) := by
  have GCell : FnOk P w K mg base CX0 1 fC fdC ["script", "k"] (spCellL K) := ok_cell FC M
  have kCell := FC.kp
  refine F.ok scDigits (fun vs H Q E h => ?_) (fun cdv A outer s H vs Q E hr h => ?_)
  · obtain ⟨a, ns, i, j, rfl, _⟩ := h
    rfl
  · obtain ⟨a, ns, i, j, rfl, hS, h0, hij, hj, q⟩ := h
    have nd := scDigits.nd
    refine ⟨_, (pss_cons (ps_set (i := 3) nd rfl (Or.inl rfl) (pe_lst pa_nil))
        (pss_cons (ps_for PassesOwn.never rfl (pi_range2 (by rfl) M.range (pa_cons (pv 1) (pa_cons (pv 2) pa_nil))) (pg_name (i := 4) nd rfl (Or.inl rfl)) (pss_cons (ps_set (i := 5) nd rfl (Or.inl rfl) (pe_call GCell (hr.mono (by decide)) rfl mCell kCell bCell .nil pass0 (pa_cons (pv 0) (pa_cons (pv 4) pa_nil))))
        (pss_cons (ps_if (pt_cmpR op_lt (pv 5) pe_int (nomark _)) (pss_one (ps_set (i := 5) nd rfl (Or.inl rfl) (pe_op op_sub pe_int (pe_op op_mul pe_int (pv 5))))) pss_nil)
        (pss_one (ps_if (pt_cmpR op_ge (pv 5) pe_int (nomark _)) (pss_one (ps_for PassesOwn.never rfl (pi_range1 (by rfl) M.range (pa_cons pe_int pa_nil)) (pg_name (i := 6) nd rfl (Or.inl rfl)) (pss_one (ps_if (pt_cmpR op_gt (pv 5) pe_int (nomark _)) (pss_cons (ps_expr (pe_bm PySem.F.plainAttrs_list PySem.F.slot_list_append PySem.F.type_list_append mt_append (pv 3) (pa_cons (pe_op op_mod (pe_callTy call_int1 (by rfl) M.int (by decide +kernel) (pa_cons (pv 5) pa_nil)) pe_int) pa_nil)))
        (pss_one (ps_set (i := 5) nd rfl (Or.inl rfl) (pe_op op_fdiv (pv 5) pe_int)))) pss_nil)))) (pss_cons (ps_set (i := 7) nd rfl (Or.inl rfl) (pe_op op_mod (pe_callTy call_int1 (by rfl) M.int (by decide +kernel) (pa_cons (pe_op op_add (pe_op op_add (pe_op op_mul (pv 5) pe_int) (pe_op op_mul (pv 4) pe_int)) pe_int) pa_nil)) pe_int))
        (pss_one (ps_for PassesOwn.never rfl (pi_range1 (by rfl) M.range (pa_cons pe_int pa_nil)) (pg_name (i := 6) nd rfl (Or.inl rfl)) (pss_cons (ps_set (i := 7) nd rfl (Or.inl rfl) (pe_op op_mod (pe_callTy call_int1 (by rfl) M.int (by decide +kernel) (pa_cons (pe_op op_add (pe_op op_add (pe_op op_mul (pv 7) pe_int) (pe_op op_mul pe_int (pv 6))) pe_int) pa_nil)) pe_int))
        (pss_one (ps_expr (pe_bm PySem.F.plainAttrs_list PySem.F.slot_list_append PySem.F.type_list_append mt_append (pv 3) (pa_cons (pe_op op_mod (pe_callTy call_int1 (by rfl) M.int (by decide +kernel) (pa_cons (pe_op op_fdiv (pv 7) pe_int) pa_nil)) pe_int) pa_nil)))))))))))))
        (pss_one (ps_ret (pv 3))))), ?_⟩
    refine ⟨(by show 0 ≤ sizeLine; decide), fun p hp => ?_⟩
    refine ⟨_, rfl, _, rfl, i, j, rfl, ⟨by omega, by omega, by omega, by omega⟩, ?_⟩
    refine for_range (lo := i) (n := (j - i).toNat) (fun m σ H' => ∃ (ds : List Int) (v4 v5 v6 v7 : Option V), σ = [some (.ref a), some (.int i), some (.int j), some (.ref p), v4, v5, v6, v7] ∧ Same H H' ∧ H' p = some (.lst (ds.map V.int)) ∧ (∀ d ∈ ds, Dig d) ∧ ds.length ≤ 60 * m)
      ⟨[], none, none, none, none, rfl, same_upd (Same.refl H) hp, upd_same, by simp, by simp⟩ ?_ ?_
    · rintro m σ H' hm ⟨ds, v4, v5, v6, v7, rfl, sm, hl, hd, hlen⟩
      refine ⟨_, rfl, _, rfl, a, ns, _, rfl, sm.seq hS, by omega, fun c => ?_⟩
      refine ⟨_, rfl, _, _, rfl, rfl, _, rfl, ?_⟩
      refine ite2 (fun _ => ?_) (fun _ => ?_)
      · refine ⟨_, rfl, _, _, rfl, rfl, .inl ⟨by decide, by decide⟩, _, _, rfl, rfl, ?_⟩
        generalize (1 : Int) - 2 * c = c'
        (refine ⟨_, rfl, _, _, rfl, rfl, _, rfl, ?_⟩
         refine ite2 (fun _ => ?_) (fun _ => ?_)
         · refine ⟨60, rfl, by decide, by decide, for_range (n := 60) (fun t σ H2 => ∃ (ds : List Int) (c : Int) (v6 : Option V), σ = [some (.ref a), some (.int i), some (.int j), some (.ref p), some (.int (i + m)), some (.int c), v6, v7] ∧ Same H H2 ∧ H2 p = some (.lst (ds.map V.int)) ∧ (∀ d ∈ ds, Dig d) ∧ ds.length ≤ 60 * m + t)
             ⟨ds, _, v6, rfl, sm, hl, hd, by omega⟩ ?_ ?_⟩
           · rintro t σ H2 ht ⟨ds, c, v6, rfl, sm, hl, hd, hlen⟩
             refine ⟨_, rfl, _, _, rfl, rfl, _, rfl, ?_⟩
             refine ite2 (fun _ => ?_) (fun _ => ?_)
             · refine ⟨_, rfl, .inl ⟨rfl, _, SqL.of hl⟩, _, rfl, .inl ⟨_, rfl, _, _, rfl, rfl, (by show (0 : Int) < 1000; decide), p, _, _, rfl, rfl, hl, (by rw [List.length_map]; exact small_line (by omega)), ?_⟩⟩
               refine ⟨_, rfl, _, _, rfl, rfl, ⟨by decide, by decide⟩, ?_⟩
               exact ⟨ds ++ [c % 1000], _, _, rfl, same_upd sm hp, upd_same.trans (congrArg some lst_more), dig_more hd, by rw [List.length_append, List.length_singleton]; omega⟩
             · exact ⟨ds, _, _, rfl, sm, hl, hd, by omega⟩
           · rintro σ H2 ⟨ds, c, v6, rfl, sm, hl, hd, hlen⟩
             exact ⟨ds, _, _, _, _, rfl, sm, hl, hd, by omega⟩
         · refine ⟨_, rfl, _, _, rfl, rfl, .inr ⟨by decide, by decide⟩, _, rfl, _, _, rfl, rfl, .inr ⟨by decide, by decide⟩, _, _, rfl, rfl, _, _, rfl, rfl, .inl ⟨_, rfl, _, _, rfl, rfl, (by show (0 : Int) < 2147483399; decide), ?_⟩⟩
           refine ⟨12, rfl, by decide, by decide, for_range (n := 12) (fun t σ H2 => ∃ (ds : List Int) (c : Int) (v6 : Option V) (s7 : Int), σ = [some (.ref a), some (.int i), some (.int j), some (.ref p), some (.int (i + m)), some (.int c), v6, some (.int s7)] ∧ Same H H2 ∧ H2 p = some (.lst (ds.map V.int)) ∧ (∀ d ∈ ds, Dig d) ∧ ds.length ≤ 60 * m + t)
             ⟨ds, _, v6, _, rfl, sm, hl, hd, by omega⟩ ?_ ?_⟩
           · rintro t σ H2 ht ⟨ds, c, v6, s7, rfl, sm, hl, hd, hlen⟩
             refine ⟨_, rfl, _, _, rfl, rfl, .inr ⟨by decide, by decide⟩, _, rfl, _, _, rfl, rfl, .inl ⟨by decide, by decide⟩, _, _, rfl, rfl, _, _, rfl, rfl, .inl ⟨_, rfl, _, _, rfl, rfl, (by show (0 : Int) < 2147483563; decide), ?_⟩⟩
             refine ⟨_, rfl, .inl ⟨rfl, _, SqL.of hl⟩, _, rfl, _, _, rfl, rfl, ⟨by decide, by decide⟩, .inl ⟨_, rfl, _, _, rfl, rfl, (by show (0 : Int) < 1000; decide), p, _, _, rfl, rfl, hl, (by rw [List.length_map]; exact small_line (by omega)), ?_⟩⟩
             exact ⟨ds ++ [_ % 1000], _, _, _, rfl, same_upd sm hp, upd_same.trans (congrArg some lst_more), dig_more hd, by rw [List.length_append, List.length_singleton]; omega⟩
           · rintro σ H2 ⟨ds, c, v6, s7, rfl, sm, hl, hd, hlen⟩
             exact ⟨ds, _, _, _, _, rfl, sm, hl, hd, by omega⟩)
      · (refine ⟨_, rfl, _, _, rfl, rfl, _, rfl, ?_⟩
         refine ite2 (fun _ => ?_) (fun _ => ?_)
         · refine ⟨60, rfl, by decide, by decide, for_range (n := 60) (fun t σ H2 => ∃ (ds : List Int) (c : Int) (v6 : Option V), σ = [some (.ref a), some (.int i), some (.int j), some (.ref p), some (.int (i + m)), some (.int c), v6, v7] ∧ Same H H2 ∧ H2 p = some (.lst (ds.map V.int)) ∧ (∀ d ∈ ds, Dig d) ∧ ds.length ≤ 60 * m + t)
             ⟨ds, _, v6, rfl, sm, hl, hd, by omega⟩ ?_ ?_⟩
           · rintro t σ H2 ht ⟨ds, c, v6, rfl, sm, hl, hd, hlen⟩
             refine ⟨_, rfl, _, _, rfl, rfl, _, rfl, ?_⟩
             refine ite2 (fun _ => ?_) (fun _ => ?_)
             · refine ⟨_, rfl, .inl ⟨rfl, _, SqL.of hl⟩, _, rfl, .inl ⟨_, rfl, _, _, rfl, rfl, (by show (0 : Int) < 1000; decide), p, _, _, rfl, rfl, hl, (by rw [List.length_map]; exact small_line (by omega)), ?_⟩⟩
               refine ⟨_, rfl, _, _, rfl, rfl, ⟨by decide, by decide⟩, ?_⟩
               exact ⟨ds ++ [c % 1000], _, _, rfl, same_upd sm hp, upd_same.trans (congrArg some lst_more), dig_more hd, by rw [List.length_append, List.length_singleton]; omega⟩
             · exact ⟨ds, _, _, rfl, sm, hl, hd, by omega⟩
           · rintro σ H2 ⟨ds, c, v6, rfl, sm, hl, hd, hlen⟩
             exact ⟨ds, _, _, _, _, rfl, sm, hl, hd, by omega⟩
         · refine ⟨_, rfl, _, _, rfl, rfl, .inr ⟨by decide, by decide⟩, _, rfl, _, _, rfl, rfl, .inr ⟨by decide, by decide⟩, _, _, rfl, rfl, _, _, rfl, rfl, .inl ⟨_, rfl, _, _, rfl, rfl, (by show (0 : Int) < 2147483399; decide), ?_⟩⟩
           refine ⟨12, rfl, by decide, by decide, for_range (n := 12) (fun t σ H2 => ∃ (ds : List Int) (c : Int) (v6 : Option V) (s7 : Int), σ = [some (.ref a), some (.int i), some (.int j), some (.ref p), some (.int (i + m)), some (.int c), v6, some (.int s7)] ∧ Same H H2 ∧ H2 p = some (.lst (ds.map V.int)) ∧ (∀ d ∈ ds, Dig d) ∧ ds.length ≤ 60 * m + t)
             ⟨ds, _, v6, _, rfl, sm, hl, hd, by omega⟩ ?_ ?_⟩
           · rintro t σ H2 ht ⟨ds, c, v6, s7, rfl, sm, hl, hd, hlen⟩
             refine ⟨_, rfl, _, _, rfl, rfl, .inr ⟨by decide, by decide⟩, _, rfl, _, _, rfl, rfl, .inl ⟨by decide, by decide⟩, _, _, rfl, rfl, _, _, rfl, rfl, .inl ⟨_, rfl, _, _, rfl, rfl, (by show (0 : Int) < 2147483563; decide), ?_⟩⟩
             refine ⟨_, rfl, .inl ⟨rfl, _, SqL.of hl⟩, _, rfl, _, _, rfl, rfl, ⟨by decide, by decide⟩, .inl ⟨_, rfl, _, _, rfl, rfl, (by show (0 : Int) < 1000; decide), p, _, _, rfl, rfl, hl, (by rw [List.length_map]; exact small_line (by omega)), ?_⟩⟩
             exact ⟨ds ++ [_ % 1000], _, _, _, rfl, same_upd sm hp, upd_same.trans (congrArg some lst_more), dig_more hd, by rw [List.length_append, List.length_singleton]; omega⟩
           · rintro σ H2 ⟨ds, c, v6, s7, rfl, sm, hl, hd, hlen⟩
             exact ⟨ds, _, _, _, _, rfl, sm, hl, hd, by omega⟩)
    · rintro σ H' ⟨ds, v4, v5, v6, v7, rfl, sm, hl, hd, hlen⟩
      exact ⟨_, rfl, q ds H' p sm hp hl hd (by omega)⟩
end
end LB

set_option maxRecDepth 100000
set_option maxHeartbeats 4000000
namespace LB
open PySem PySem.Spec PyProof.Rows L2
/-! ### the box of draws -/
/-- at b: a list of the digits' list and of a place -/
def Box (H : Hp) (b : Addr) : Prop := ∃ (l : Addr) (ds : List Int) (n : Int), H b = some (.lst [.ref l, .int n]) ∧ H l = some (.lst (ds.map V.int)) ∧ b ≠ l ∧ 0 ≤ n ∧ ds.length ≤ 3780
/-- all stands but what is at b, and the list of the digits is the same one -/
structure But (b : Addr) (H H' : Hp) : Prop where
  k : ∀ a o, a ≠ b → H a = some o → H' a = some o
  d : ∀ l n, H b = some (.lst [.ref l, .int n]) → ∃ n' : Int, H' b = some (.lst [.ref l, .int n'])
theorem But.refl (b : Addr) (H : Hp) : But b H H := ⟨fun _ _ _ q => q, fun l n h => ⟨n, h⟩⟩
theorem But.trans {b : Addr} {H H1 H2 : Hp} (x : But b H H1) (y : But b H1 H2) : But b H H2 := ⟨fun a o n q => y.k a o n (x.k a o n q), fun l n h => let ⟨n', h'⟩ := x.d l n h; y.d l n' h'⟩
theorem But.of {b : Addr} {H H' : Hp} (e : Same H H') : But b H H' := ⟨fun a o _ q => e a o q, fun l n h => ⟨n, e _ _ h⟩⟩
theorem But.new {b : Addr} {H H' : Hp} {p : Addr} {o : HO} (x : But b H H') (n : H' p = none) : But b H (upd H' p o) :=
  ⟨fun a u na q => by
    have q' := x.k a u na q
    rw [upd_ne (ne_of_none q' n)]
    exact q', fun l m h => by
    obtain ⟨n', h'⟩ := x.d l m h
    exact ⟨n', by rw [upd_ne (ne_of_none h' n)]; exact h'⟩⟩
theorem But.seqT {K : PySem.W.Frag} {b : Addr} {H H' : Hp} {a : Addr} {xs : List V} (x : But b H H') (ne : ∀ ys, H b ≠ some (.tup ys)) (nf : ∀ o u, H b ≠ some (.frz o u)) (h : SqT K H a xs) : SqT K H' a xs := by
  rcases h with (h | ⟨o, h⟩) | h
  · exact .inl (.inl (x.k a _ (fun z => ne _ (z ▸ h)) h))
  · exact .inl (.inr ⟨o, x.k a _ (fun z => nf _ _ (z ▸ h)) h⟩)
  · exact .inr h
theorem Box.ne {H : Hp} {b : Addr} (B : Box H b) : (∀ ys, H b ≠ some (.tup ys)) ∧ ∀ o u, H b ≠ some (.frz o u) := by
  obtain ⟨l, ds, n, h, _⟩ := B
  rw [h]
  exact ⟨fun ys z => (by cases z), fun o u z => (by cases z)⟩
theorem Box.tup {K : PySem.W.Frag} {b : Addr} {H H' : Hp} {a : Addr} {xs : List V} (B : Box H b) (x : But b H H') (h : SqT K H a xs) : SqT K H' a xs := x.seqT B.ne.1 B.ne.2 h
theorem Box.new {H : Hp} {b p : Addr} {o : HO} (B : Box H b) (n : H p = none) : Box (upd H p o) b := by
  obtain ⟨l, ds, k, h, hl, r⟩ := B
  exact ⟨l, ds, k, by rw [upd_ne (ne_of_none h n)]; exact h, by rw [upd_ne (ne_of_none hl n)]; exact hl, r⟩
section
variable {P : Program} {w : World} {K : PySem.W.Frag} {mg : Str → Option Value} {base : Heap}
def spDraw (K : PySem.W.Frag) : Sp := fun vs H Q _ => ∃ (b : Addr) (m : Int), vs = [.ref b, .int m] ∧ Box H b ∧ 0 < m ∧ ∀ (r : Int) (H' : Hp), 0 ≤ r → r < m → Box H' b → But b H H' → Q (.int r) H'
theorem scDraw : FnScope ["box", "many", "at"] ["box", "many"] (defScope sDraw) := ⟨rfl, rfl, rfl, by decide +kernel, rfl, by decide +kernel, by decide +kernel⟩
theorem ok_draw {f : Addr} {fd : FuncData} (F : Fun K "_law_draw" "_law_draw" sDraw f fd) (M : Names mg) : FnOk P w K mg base CX0 1 f fd ["box", "many"] (spDraw K) := by
  refine F.ok scDraw (fun vs H Q E h => ?_) (fun cdv A outer s H vs Q E hr h => ?_)
  · obtain ⟨b, m, rfl, _⟩ := h
    rfl
  · obtain ⟨b, m, rfl, ⟨l, ds, n, hb, hl, ne, h0, hlen⟩, hm, q⟩ := h
    have nd := scDraw.nd
    refine ⟨_, (pss_cons (ps_set (i := 2) nd rfl (Or.inl rfl) (pe_ix ix_list (pv 0) pe_int (fun _ _ => rfl)))
        (pss_cons (ps_asg (pe_op op_add (pv 2) pe_int) (pg_sub (pv 0) pe_int set_list))
        (pss_cons (ps_if (pt_cmpR op_lt (pv 2) (pe_callB call_len_seq (by rfl) M.len PySem.boot_len (pa_cons (pe_ix ix_list (pv 0) pe_int (fun _ _ => rfl)) pa_nil)) (nomark _)) (pss_one (ps_ret (pe_op op_mod (pe_callTy call_int1 (by rfl) M.int (by decide +kernel) (pa_cons (pe_ix ix_list (pe_ix ix_list (pv 0) pe_int (fun _ _ => rfl)) (pv 2) (fun _ _ => rfl)) pa_nil)) (pv 1)))) pss_nil)
        (pss_one (ps_ret (pe_op op_mod (pe_callTy call_int1 (by rfl) M.int (by decide +kernel) (pa_cons (pe_op op_add (pe_op op_mul (pv 2) pe_int) pe_int) pa_nil)) (pv 1))))))), ?_⟩
    refine ⟨_, rfl, b, _, _, _, rfl, rfl, SqL.of hb, rfl, ?_⟩
    refine ⟨_, rfl, _, _, rfl, rfl, _, rfl, b, _, _, 1, rfl, rfl, hb, rfl, ?_⟩
    have hb' : upd H b (.lst [.ref l, .int (n + 1)]) b = some (.lst [.ref l, .int (n + 1)]) := upd_same
    have hl' : upd H b (.lst [.ref l, .int (n + 1)]) l = some (.lst (ds.map V.int)) := by rw [upd_ne ne.symm]; exact hl
    have B : Box (upd H b (.lst [.ref l, .int (n + 1)])) b := ⟨l, ds, n + 1, hb', hl', ne, by omega, hlen⟩
    have U : But b H (upd H b (.lst [.ref l, .int (n + 1)])) := ⟨fun a o na z => by rw [upd_ne na]; exact z, fun l' n' z => by
      rw [hb] at z
      cases z
      exact ⟨n + 1, hb'⟩⟩
    refine ⟨_, rfl, _, rfl, b, _, _, _, rfl, rfl, SqL.of hb', rfl, l, _, rfl, .inl (SqL.of hl'), _, _, rfl, rfl, _, rfl, ?_⟩
    refine ite2 (fun c => ?_) (fun c => ?_)
    · have lt := of_decide_eq_true c
      rw [List.length_map] at lt
      obtain ⟨j, rfl⟩ : ∃ j : Nat, n = (j : Int) := ⟨n.toNat, by omega⟩
      have hj : j < ds.length := by omega
      refine ⟨_, rfl, b, _, _, _, rfl, rfl, SqL.of hb', rfl, _, rfl, l, _, _, _, rfl, rfl, SqL.of hl', atI_nat (v := V.int ds[j]) (by rw [List.getElem?_map, List.getElem?_eq_getElem hj]; rfl), .inl ⟨_, rfl, _, rfl, _, _, rfl, rfl, hm, ?_⟩⟩
      exact q _ _ (Int.emod_nonneg _ (by omega)) (Int.emod_lt_of_pos _ hm) B U
    · refine ⟨_, rfl, _, _, rfl, rfl, .inr ⟨by decide, by decide⟩, _, _, rfl, rfl, .inl ⟨_, rfl, _, rfl, _, _, rfl, rfl, hm, ?_⟩⟩
      exact q _ _ (Int.emod_nonneg _ (by omega)) (Int.emod_lt_of_pos _ hm) B U
end
end LB

set_option maxRecDepth 100000
set_option maxHeartbeats 4000000
namespace LB
open PySem PySem.Spec PyProof.Rows L2
/-! ### tuples stay -/
structure Tp (H H' : Hp) : Prop where
  tup : ∀ a xs, H a = some (.tup xs) → H' a = some (.tup xs)
  frz : ∀ a o u, H a = some (.frz o u) → H' a = some (.frz o u)
theorem Tp.refl (H : Hp) : Tp H H := ⟨fun _ _ z => z, fun _ _ _ z => z⟩
theorem Tp.trans {H H1 H2 : Hp} (x : Tp H H1) (y : Tp H1 H2) : Tp H H2 := ⟨fun a xs z => y.tup a xs (x.tup a xs z), fun a o u z => y.frz a o u (x.frz a o u z)⟩
theorem Tp.same {H H' : Hp} (e : Same H H') : Tp H H' := ⟨fun a xs z => e _ _ z, fun a o u z => e _ _ z⟩
theorem Tp.but {b : Addr} {H H' : Hp} (B : Box H b) (e : But b H H') : Tp H H' :=
  ⟨fun a xs z => e.k a _ (fun y => B.ne.1 xs (y ▸ z)) z, fun a o u z => e.k a _ (fun y => B.ne.2 o u (y ▸ z)) z⟩
theorem Tp.lst {H : Hp} {l : Addr} {xs : List V} {o : HO} (h : H l = some (.lst xs)) : Tp H (upd H l o) :=
  ⟨fun a ys z => by rw [upd_ne (ne_of z h (by intro y; cases y))]; exact z, fun a p u z => by rw [upd_ne (ne_of z h (by intro y; cases y))]; exact z⟩
theorem Tp.seq {K : PySem.W.Frag} {H H' : Hp} {a : Addr} {xs : List V} (x : Tp H H') (h : SqT K H a xs) : SqT K H' a xs := by
  rcases h with (h | ⟨o, h⟩) | h
  · exact .inl (.inl (x.tup _ _ h))
  · exact .inl (.inr ⟨o, x.frz _ _ _ h⟩)
  · exact .inr h
theorem Box.apart {H : Hp} {b l : Addr} (B : Box H b) (n : H l = none) : l ≠ b := fun z => by
  obtain ⟨_, _, _, h, _⟩ := B
  rw [z, h] at n
  cases n
theorem Box.keepL {H H' : Hp} {b l : Addr} {xs : List V} (B : Box H b) (n : H l = none) (U : But b (upd H l (.lst xs)) H') : H' l = some (.lst xs) := U.k l _ (B.apart n) upd_same
theorem Box.same {H H' : Hp} {b : Addr} (B : Box H b) (e : Same H H') : Box H' b := by
  obtain ⟨l, ds, k, h, hl, r⟩ := B
  exact ⟨l, ds, k, e _ _ h, e _ _ hl, r⟩
theorem same_new {H : Hp} {p : Addr} {o : HO} (n : H p = none) : Same H (upd H p o) := same_upd (Same.refl H) n
theorem Box.off {H : Hp} {b l : Addr} (B : Box H b) (e : H l = none) : l ≠ b := B.apart e
/-- a list that is not of the box is written -/
theorem Box.put {H0 H : Hp} {b l : Addr} {o : HO} (B0 : Box H0 b) (B : Box H b) (U : But b H0 H) (e : H0 l = none) : Box (upd H l o) b ∧ But b H0 (upd H l o) := by
  have lb := B0.off e
  obtain ⟨l0, d0, n0, hb0, hl0, _⟩ := B0
  obtain ⟨l1, d1, n1, hb1, hl1, ne1, r⟩ := B
  obtain ⟨n', h'⟩ := U.d l0 n0 hb0
  have el : l1 = l0 := by
    rw [hb1] at h'
    have e2 := Option.some.inj h'
    injection e2 with e3
    injection e3 with e4
    exact V.ref.inj e4
  subst el
  have ll : l ≠ l1 := fun z => by rw [z, hl0] at e; cases e
  have U' : But b H0 (upd H l o) := ⟨fun a u na q => by
    have al : a ≠ l := fun z => by rw [z, e] at q; cases q
    rw [upd_ne al]
    exact U.k a u na q, fun l' m q => by
    obtain ⟨m', q'⟩ := U.d l' m q
    exact ⟨m', by rw [upd_ne (Ne.symm lb)]; exact q'⟩⟩
  exact ⟨⟨l1, d1, n1, by rw [upd_ne (Ne.symm lb)]; exact hb1, by rw [upd_ne (Ne.symm ll)]; exact hl1, ne1, r⟩, U'⟩
end LB

set_option maxRecDepth 100000
set_option maxHeartbeats 4000000
namespace LB
open PySem PySem.Spec PyProof.Rows L2
/-! ### words and tests -/
theorem atI_0 {x : V} {xs : List V} : atI (x :: xs) 0 = some x := atI_nat (j := 0) (v := x) (xs := x :: xs) rfl
theorem iteE {x y : Str} {A B : Prop} (h : x = y) (a : A) : if decide (V.str x = V.str y) = true then A else B := by rw [if_pos (decide_eq_true (congrArg V.str h))]; exact a
theorem iteN {x y : Str} {A B : Prop} (h : x ≠ y) (b : B) : if decide (V.str x = V.str y) = true then A else B := by rw [if_neg (fun c => h (V.str.inj (of_decide_eq_true c)))]; exact b
theorem ite_int {x y : Int} {A B : Prop} (h1 : x = y → A) (h2 : x ≠ y → B) : if decide (V.int x = V.int y) = true then A else B :=
  ite2 (fun c => h1 (V.int.inj (of_decide_eq_true c))) (fun c => h2 fun e => c (decide_eq_true (congrArg V.int e)))
theorem inTwo {x a b : Str} (h : inV (V.str x) [V.str a, V.str b] = true) : a = x ∨ b = x := by
  have h : ((a == x) || ((b == x) || false)) = true := h
  rw [Bool.or_false, Bool.or_eq_true] at h
  exact h.imp (fun e => eq_of_beq e) fun e => eq_of_beq e
theorem inTwo_of {x a b : Str} (h : a = x ∨ b = x) : inV (V.str x) [V.str a, V.str b] = true := by
  show ((a == x) || ((b == x) || false)) = true
  rw [Bool.or_false, Bool.or_eq_true]
  exact h.imp (fun e => beq_iff_eq.mpr e) fun e => beq_iff_eq.mpr e
/-! ### data under what stays -/
theorem sqT_same {K : PySem.W.Frag} {H H' : Hp} {a : Addr} {xs : List V} (e : Same H H') (h : SqT K H a xs) : SqT K H' a xs := (Tp.same e).seq h
theorem sqL_same {K : PySem.W.Frag} {H H' : Hp} {a : Addr} {xs : List V} (e : Same H H') (h : SqL K H a xs) : SqL K H' a xs := by
  rcases h with (h | ⟨o, h⟩) | h
  · exact .inl (.inl (e _ _ h))
  · exact .inl (.inr ⟨o, e _ _ h⟩)
  · exact .inr h
mutual
theorem dp_same {K : PySem.W.Frag} {H H' : Hp} (e : Same H H') : ∀ {v : V} {d : PyData}, Dp K H v d → Dp K H' v d
  | _, _, .non => .non
  | _, _, .bl b => .bl b
  | _, _, .int i => .int i
  | _, _, .str x => .str x
  | _, _, .lst h r => .lst (sqL_same e h) (dpAll_same e r)
  | _, _, .tup h r => .tup (sqT_same e h) (dpAll_same e r)
theorem dpAll_same {K : PySem.W.Frag} {H H' : Hp} (e : Same H H') : ∀ {vs : List V} {ds : List PyData}, DpAll K H vs ds → DpAll K H' vs ds
  | _, _, .nil => .nil
  | _, _, .cons h r => .cons (dp_same e h) (dpAll_same e r)
end
theorem dpI {K : PySem.W.Frag} {H : Hp} : ∀ {ns : List Int}, DpAll K H (ns.map V.int) (ns.map PyData.int)
  | [] => .nil
  | n :: r => .cons (.int n) dpI
theorem map_at {ns : List Int} {j : Nat} {x : V} (h : (ns.map V.int)[j]? = some x) : ∃ q, ns[j]? = some q ∧ x = .int q := by
  rw [List.getElem?_map] at h
  obtain ⟨q, h1, h2⟩ := Option.map_eq_some_iff.mp h
  exact ⟨q, h1, h2.symm⟩
theorem free_new {H : Hp} {p p2 : Addr} {o : HO} (n : H p = none) (n2 : (upd H p o) p2 = none) : H p2 = none := by
  by_cases e : p2 = p
  · rw [e]; exact n
  · rw [upd_ne e] at n2
    exact n2
/-- two items, one told before -/
theorem dp_two {K : PySem.W.Frag} {H : Hp} {r : V} {d : PyData} {k : Int} {p : Addr} (n : H p = none) (h : Dp K H r d) : Dp K (upd H p (.tup [r, .int k])) (.ref p) (.tuple [d, .int k]) :=
  .tup (SqT.of upd_same) (.cons (dp_same (same_new n) h) (.cons (.int _) .nil))
/-! ### comprehensions: one more walk -/
theorem in_tup {K : PySem.W.Frag} {a : Addr} {ys : List V} {Nx : Hp → Prop} {R : V → Hp → (Hp → Prop) → Prop} {H4 : Hp} (Pv : Nat → Hp → Prop) (h0 : Pv 0 H4) (hl : ∀ j H, j ≤ ys.length → Pv j H → SqT K H a ys)
    (hs : ∀ j y H, ys[j]? = some y → Pv j H → R y H (Pv (j + 1))) (hd : ∀ H, Pv ys.length H → Nx H) :
    ∃ W1 : Nat → Nat → Hp → Prop, (∃ m, W1 0 m H4) ∧ ∀ j k H, W1 j k H → ((Itt K a).stop j H ∧ Nx H) ∨ ((Itt K a).go j H ∧ ∃ Nx1 : Hp → Prop, (∀ H', Nx1 H' → ∃ k', k' < k ∧ W1 (j + 1) k' H') ∧ ∀ x H', (Itt K a).yld j H x H' → R x H' Nx1) := by
  refine ⟨fun i m H => m = ys.length - i ∧ i ≤ ys.length ∧ Pv i H, ⟨ys.length, by simp, Nat.zero_le _, h0⟩, ?_⟩
  rintro i m H ⟨rfl, hi, p⟩
  have q := hl i H hi p
  by_cases hlt : i < ys.length
  · refine .inr ⟨⟨ys, ys[i], q, by simp [hlt]⟩, Pv (i + 1), fun H' p' => ⟨ys.length - (i + 1), by omega, rfl, hlt, p'⟩, fun x H' y => ?_⟩
    obtain ⟨e, y⟩ := y
    subst e
    exact hs i x _ (y ys q) p
  · have e : i = ys.length := by omega
    subst e
    exact .inl ⟨⟨ys, q, Nat.le_refl _⟩, hd H p⟩
theorem takeS {α : Type} {l : List α} {i : Nat} {x : α} (h : l[i]? = some x) : l.take (i + 1) = l.take i ++ [x] := by
  rw [List.take_add_one, h]
  rfl
theorem ix_listK {X : Cx} {K : PySem.W.Frag} (h : X.K = K) : IxR X (rIxL K) := by
  subst h
  exact ix_list
theorem ix_tupK {X : Cx} {K : PySem.W.Frag} (h : X.K = K) : IxR X (rIxT K) := by
  subst h
  exact ix_tup
def rTupOf (K : PySem.W.Frag) : List V → Hp → VK → Prop := fun xs H Q => ∃ p ys, xs = [V.ref p] ∧ ((SqL K H p ys ∧ ∀ l, H l = none → Q (.ref l) (upd H l (.tup ys))) ∨ SqT K H p ys ∧ Q (.ref p) H)
theorem call_tupleK {X : Cx} {K : PySem.W.Frag} (h : X.K = K) : CallR X (.type "tuple") (rTupOf K) := by
  subst h
  exact call_tuple_of
theorem pi_tupK {X : Cx} {tg : Expr} {K : PySem.W.Frag} (h : X.K = K) {l : Expr} {tl : TE} (hl : PE X l tl) : PI X tg l (iTup K tl) := by
  subst h
  exact pi_tup hl
end LB

set_option maxRecDepth 100000
set_option maxHeartbeats 8000000
namespace LB
open PySem PySem.Spec PyProof.Rows L2 TL
/-! ### signs, blocks, pieces -/
structure NamesW (mg : Str → Option Value) : Prop extends Names mg where
  all : mg "all" = none
  ord : mg "ord" = none
  list : mg "list" = none
  max : mg "max" = none
def charL : List Nat := 10 :: (List.range' 32 95).filter (· ≠ 37)
def isSg (i : Int) : Bool := decide (i = 10) || (decide (32 ≤ i) && decide (i ≤ 126) && !decide (i = 37))
theorem charL_iff (i : Int) : (0 ≤ i ∧ i.toNat ∈ charL) ↔ isSg i = true := by
  unfold charL isSg
  simp only [List.mem_cons, List.mem_filter, List.mem_range', Bool.or_eq_true, Bool.and_eq_true, decide_eq_true_eq, Bool.not_eq_true', decide_eq_false_iff_not]
  constructor
  · rintro ⟨h0, h | ⟨⟨k, h1, h2⟩, h3⟩⟩
    · exact .inl (by omega)
    · have : i.toNat ≠ 37 := by simpa using h3
      exact .inr ⟨⟨by omega, by omega⟩, by omega⟩
  · rintro (h | ⟨⟨h1, h2⟩, h3⟩)
    · exact ⟨by omega, .inl (by omega)⟩
    · exact ⟨by omega, .inr ⟨⟨i.toNat - 32, by omega, by omega⟩, by simpa using (show i.toNat ≠ 37 by omega)⟩⟩
theorem char_val (i : Int) : valV (signD charL) (.inl i) = if isSg i = true then some (.str (ofL [i.toNat])) else none := by
  rw [sign_get]
  by_cases h : isSg i = true
  · rw [if_pos ((charL_iff i).mpr h), if_pos h]
  · rw [if_neg (fun z => h ((charL_iff i).mp z)), if_neg h]
/-- a block has 32 bytes -/
def Blk (b : List Int) : Prop := b.length = 32 ∧ ∀ x ∈ b, 0 ≤ x ∧ x ≤ 255
abbrev gI (b : List Int) (i : Nat) : Int := b.getD i 0
def marksOf (b : List Int) (m : Int) : Bool := decide (gI b 0 = m) && decide (gI b 31 = m)
def zerosOf (b : List Int) : Bool := b.all fun x => decide (x = 0)
def codesOf (b : List Int) : List Int := cutA b (some 6) (some (6 + gI b 5))
def restOf (b : List Int) : List Int := cutA b (some (6 + gI b 5)) (some 31)
def txtOf (cs : List Int) : Str := ofL (cs.map Int.toNat)
def isPiece (b : List Int) : Bool := marksOf b 74 && !decide (gI b 1 ≥ gI b 2) && !decide (gI b 5 > 24) && (codesOf b).all isSg && zerosOf (restOf b)
def pieceD (b : List Int) : PyData := if isPiece b = true then .tuple [.int (gI b 1), .int (gI b 2), .int (256 * gI b 3 + gI b 4), .str (txtOf (codesOf b))] else .none
def isHead (b : List Int) : Bool := marksOf b 72 && zerosOf (cutA b (some 3) (some 31)) && !decide (256 * gI b 1 + gI b 2 > 1000)
def headD (b : List Int) : PyData := if isHead b = true then .int (256 * gI b 1 + gI b 2) else .none
theorem blk_get {b : List Int} (h : Blk b) (i : Nat) : 0 ≤ gI b i ∧ gI b i ≤ 255 := by
  unfold gI
  by_cases hi : i < b.length
  · rw [List.getD_eq_getElem?_getD, List.getElem?_eq_getElem hi]
    exact h.2 _ (List.getElem_mem hi)
  · rw [List.getD_eq_getElem?_getD, List.getElem?_eq_none (by omega)]
    decide
theorem atI_blk {b : List Int} (h : Blk b) {i : Nat} (hi : i < 32) : atI (b.map V.int) (i : Int) = some (.int (gI b i)) := atI_get (by rw [h.1]; exact hi)
theorem atI_blkL {b : List Int} (h : Blk b) : atI (b.map V.int) (-1) = some (.int (gI b 31)) := by
  have e : atI (b.map V.int) (31 : Int) = some (.int (gI b 31)) := atI_blk h (i := 31) (by decide)
  rw [← e]
  unfold atI
  have hl : (b.map V.int).length = 32 := by rw [List.length_map]; exact h.1
  rw [hl]
  rfl
theorem same_none {H H' : Hp} {p : Addr} (S : Same H H') (n : H' p = none) : H p = none := by
  cases e : H p with
  | none => rfl
  | some o => rw [S p o e] at n; cases n
theorem bn {b : Bool} (h : (!b) = true) : b = false := by
  cases b
  · rfl
  · cases h
theorem bp {b : Bool} (h : ¬ (!b) = true) : b = true := by
  cases b
  · exact absurd rfl h
  · rfl
theorem dec_int (x y : Int) : decide (V.int x = V.int y) = decide (x = y) := by
  by_cases h : x = y
  · rw [h, decide_eq_true rfl, decide_eq_true rfl]
  · rw [decide_eq_false h, decide_eq_false fun e => h (V.int.inj e)]
theorem signD_snoc (l : List Nat) (c : Nat) : signD (l ++ [c]) = putK (signD l) (.inl (c : Int)) (.str (ofL [c])) := by
  unfold signD
  rw [List.foldl_append]
  rfl
theorem signD_short (l : List Nat) : (signD l).length ≤ l.length := by
  have := signD_len l []
  simpa [signD] using this
theorem char_some (i : Int) : (valV (signD charL) (.inl i)).isSome = isSg i := by
  rw [char_val]
  cases isSg i <;> rfl
theorem all_map {α : Type} (f : α → Bool) (l : List α) : (l.map f).all id = l.all f := by
  rw [List.all_map]
  rfl
section
variable {P : Program} {w : World} {K : PySem.W.Frag} {mg : Str → Option Value} {base : Heap}
def spMarks (K : PySem.W.Frag) : Sp := fun vs H Q _ => ∃ (a : Addr) (b : List Int) (m : Int), vs = [.ref a, .int m] ∧ SqL K H a (b.map V.int) ∧ Blk b ∧ Q (.bl (marksOf b m)) H
theorem scMk : FnScope ["block", "mark"] ["block", "mark"] (defScope sMarks) := ⟨rfl, rfl, rfl, by decide +kernel, rfl, by decide +kernel, by decide +kernel⟩
theorem ok_marks {f : Addr} {fd : FuncData} (F : Fun K "has_marks" "has_marks" sMarks f fd) : FnOk P w K mg base CX0 1 f fd ["block", "mark"] (spMarks K) := by
  refine F.ok scMk (fun vs H Q E h => ?_) (fun cdv A outer s H vs Q E hr h => ?_)
  · obtain ⟨a, b, m, rfl, _⟩ := h
    rfl
  · obtain ⟨a, b, m, rfl, ha, hb, q⟩ := h
    refine ⟨_, (pss_one (ps_ret (pe_and (pe_cmpR op_eq (pe_ix ix_list (pv 0) pe_int (fun _ _ => rfl)) (pv 1) (nomark _)) (pe_one (pe_cmpR op_eq (pe_ix ix_list (pv 0) (pe_un un_neg pe_int) (fun _ _ => rfl)) (pv 1) (nomark _)))))), ?_⟩
    refine ⟨_, rfl, a, _, _, _, rfl, rfl, ha, atI_blk hb (i := 0) (by decide), ?_⟩
    unfold marksOf at q
    refine ⟨_, rfl, rfl, _, rfl, ite2 (fun c => ?_) (fun c => ?_)⟩
    · rw [dec_int] at c
      rw [c, Bool.true_and, ← dec_int] at q
      exact ⟨_, rfl, _, rfl, a, _, _, _, rfl, rfl, ha, atI_blkL hb, _, rfl, rfl, q⟩
    · rw [dec_int] at c
      rw [Bool.eq_false_iff.mpr c, Bool.false_and] at q
      exact q
def spZeros (K : PySem.W.Frag) : Sp := fun vs H Q _ => ∃ (a : Addr) (b : List Int), vs = [.ref a] ∧ SqL K H a (b.map V.int) ∧ b.length ≤ 100 ∧ ∀ H', Same H H' → Q (.bl (zerosOf b)) H'
theorem scZr : FnScope ["numbers", "number"] ["numbers"] (defScope sZeros) := ⟨rfl, rfl, rfl, by decide +kernel, rfl, by decide +kernel, by decide +kernel⟩
theorem ok_zeros {f : Addr} {fd : FuncData} (F : Fun K "are_zeros" "are_zeros" sZeros f fd) (M : NamesW mg) : FnOk P w K mg base CX0 1 f fd ["numbers"] (spZeros K) := by
  refine F.ok scZr (fun vs H Q E h => ?_) (fun cdv A outer s H vs Q E hr h => ?_)
  · obtain ⟨a, b, rfl, _⟩ := h
    rfl
  · obtain ⟨a, b, rfl, ha, hb, q⟩ := h
    have nd := scZr.nd
    refine ⟨_, (pss_one (ps_ret (pe_callB (cr_all rfl) (by rfl) M.all (by decide +kernel) (pa_cons (pe_lc (own := [("number", 1)]) (g := (gName 1)) rfl nd (pi_list (pv 0)) (blkOk_by (N := ["numbers", "number"]) (sc := (defScope sZeros)) (by decide +kernel)) (fun _ _ _ _ _ => (pg_name (i := 1) nd rfl (Or.inl rfl))) (fun _ _ _ _ _ => pts_nil) (fun _ _ _ _ _ => (pe_cmpR op_eq (pv 1) pe_int (nomark _)))) pa_nil)))), ?_⟩
    refine ⟨_, rfl, a, rfl, ⟨_, ha⟩, fun D nD => ?_⟩
    refine lc_list (K := K) (xs := b.map V.int) (fun j H' => Same H H' ∧ H' D = some (.lst ((b.take j).map fun x => V.bl (decide (x = 0))))) ⟨same_new nD, upd_same⟩ (fun j H' _ h => sqL_same h.1 ha) ?_ ?_
    · rintro j x H1 hx ⟨S1, hD⟩
      obtain ⟨n, hn, rfl⟩ := map_at hx
      refine ⟨rfl, _, rfl, rfl, _, hD, ?_, same_upd S1 nD, ?_⟩
      · rw [List.length_map, List.length_take]
        exact small_line (by omega)
      · rw [takeS hn, List.map_append, dec_int]
        exact upd_same
    · rintro H1 ⟨S1, hD⟩
      rw [List.length_map, List.take_length] at hD
      refine ⟨D, b.map fun x => decide (x = 0), rfl, SqL.of (by rw [hD, List.map_map]; rfl), ?_⟩
      have e : (b.map fun x => decide (x = 0)).all id = zerosOf b := by
        unfold zerosOf
        rw [List.all_map]
        rfl
      rw [e]
      exact q H1 S1
end
end LB

set_option maxRecDepth 100000
set_option maxHeartbeats 8000000
namespace LB
open PySem PySem.Spec PyProof.Rows L2 TL
/-- the top's numbers and signs -/
structure TopW (mg : Str → Option Value) : Prop where
  at6 : ∃ t, mg "TEXT_AT" = some (.int 6 t)
  pc : ∃ t, mg "PIECE" = some (.int 24 t)
  pm : ∃ t, mg "PIECE_MARK" = some (.int 74 t)
  hm : ∃ t, mg "HEAD_MARK" = some (.int 72 t)
  gr : ∃ t, mg "GRACE_MOST" = some (.int 1000 t)
  ch : ∃ z t, mg "CHARACTERS" = some (.str z t) ∧ tl z = charL
section
variable {P : Program} {w : World} {K : PySem.W.Frag} {mg : Str → Option Value} {base : Heap}
def spDecH (K : PySem.W.Frag) : Sp := fun vs H Q _ => ∃ (a : Addr) (b : List Int), vs = [.ref a] ∧ SqL K H a (b.map V.int) ∧ Blk b ∧ ∀ v H', Same H H' → Dp K H' v (headD b) → Q v H'
theorem scDh : FnScope ["block", "grace"] ["block"] (defScope sDecH) := ⟨rfl, rfl, rfl, by decide +kernel, rfl, by decide +kernel, by decide +kernel⟩
theorem ok_decH {f fM fZ : Addr} {fd fdM fdZ : FuncData} (F : Fun K "decode_head" "decode_head" sDecH f fd) (M : NamesW mg) (T : TopW mg) (FM : Fun K "has_marks" "has_marks" sMarks fM fdM) (mM : mg "has_marks" = some (.ref fM)) (bM : Binds K fdM ["block", "mark"] [])
    (FZ : Fun K "are_zeros" "are_zeros" sZeros fZ fdZ) (mZ : mg "are_zeros" = some (.ref fZ)) (bZ : Binds K fdZ ["numbers"] []) :
    FnOk P w K mg base CX0 2 f fd ["block"] (spDecH K) := by
  have GM : FnOk P w K mg base CX0 1 fM fdM ["block", "mark"] (spMarks K) := ok_marks FM
  have GZ : FnOk P w K mg base CX0 1 fZ fdZ ["numbers"] (spZeros K) := ok_zeros FZ M
  have kM := FM.kp
  have kZ := FZ.kp
  obtain ⟨t1, hm⟩ := T.hm
  obtain ⟨t2, gr⟩ := T.gr
  refine F.ok scDh (fun vs H Q E h => ?_) (fun cdv A outer s H vs Q E hr h => ?_)
  · obtain ⟨a, b, rfl, _⟩ := h
    rfl
  · obtain ⟨a, b, rfl, ha, hb, q⟩ := h
    have nd := scDh.nd
    refine ⟨_, (pss_cons (ps_set (i := 1) nd rfl (Or.inl rfl) (pe_op op_add (pe_op op_mul pe_int (pe_ix ix_list (pv 0) pe_int (fun _ _ => rfl))) (pe_ix ix_list (pv 0) pe_int (fun _ _ => rfl))))
        (pss_cons (ps_if (PW.pt (pw_or (pt_not (pt_val (pe_call GM (hr.mono (by decide)) rfl mM kM bM .nil pass0 (pa_cons (pv 0) (pa_cons (pe_glob (v := .int 72) rfl hm ⟨_, rfl⟩) pa_nil))))) (pw_or (pt_not (pt_val (pe_call GZ (hr.mono (by decide)) rfl mZ kZ bZ .nil pass0 (pa_cons (pe_slice sl_list (pv 0) (po_some pe_int) (po_some (pe_un un_neg pe_int))) pa_nil)))) (pw_or1 (pt_cmpR op_gt (pv 1) (pe_glob (v := .int 1000) rfl gr ⟨_, rfl⟩) (nomark _)))))) (pss_one (ps_ret pe_non)) pss_nil)
        (pss_one (ps_ret (pv 1))))), ?_⟩
    refine ⟨_, rfl, a, _, _, _, rfl, rfl, ha, atI_blk hb (i := 1) (by decide), _, _, rfl, rfl, .inl ⟨by decide, by decide⟩, _, rfl, a, _, _, _, rfl, rfl, ha, atI_blk hb (i := 2) (by decide), _, _, rfl, rfl, ?_⟩
    have no : ∀ H', Same H H' → isHead b = false → Q .non H' := fun H' S e => q _ H' S (by unfold headD; rw [if_neg (by rw [e]; decide)]; exact .non)
    have yes : ∀ H', Same H H' → isHead b = true → Q (.int (256 * gI b 1 + gI b 2)) H' := fun H' S e => q _ H' S (by unfold headD; rw [if_pos e]; exact .int _)
    clear q
    refine ⟨_, rfl, a, b, 72, rfl, ha, hb, _, rfl, ite2 (fun c => ?_) (fun c => ?_)⟩
    · exact no H (Same.refl H) (by unfold isHead; rw [bn c]; rfl)
    have c : marksOf b 72 = true := bp c
    refine ⟨_, rfl, _, rfl, _, rfl, _, rfl, a, _, rfl, ha, fun p np => ?_⟩
    rw [cutI, cutA_last b (some 3) 31 hb.1]
    refine ⟨p, cutA b (some 3) (some (31 : Nat)), rfl, SqL.of upd_same, ?_, fun H1 S1 => ⟨_, rfl, ite2 (fun c2 => ?_) (fun c2 => ?_)⟩⟩
    · have := cutA_len b (some 3) (some ((31 : Nat) : Int))
      have := hb.1
      omega
    · exact no H1 ((same_new np).trans S1) (by
        unfold isHead
        rw [show zerosOf (cutA b (some 3) (some 31)) = false from bn c2, c]
        rfl)
    have c2 : zerosOf (cutA b (some 3) (some 31)) = true := bp c2
    refine ⟨_, rfl, _, _, rfl, rfl, _, rfl, ite2 (fun c3 => ?_) (fun c3 => ?_)⟩
    · refine no H1 ((same_new np).trans S1) ?_
      have c3 := of_decide_eq_true c3
      unfold isHead
      rw [show decide (256 * gI b 1 + gI b 2 > 1000) = true from decide_eq_true c3]
      exact Bool.and_false _
    · refine ⟨_, rfl, yes H1 ((same_new np).trans S1) ?_⟩
      have c3 : ¬ (256 * gI b 1 + gI b 2 > 1000) := fun z => c3 (decide_eq_true z)
      unfold isHead
      rw [c, c2, decide_eq_false c3]
      rfl
def spDecP (K : PySem.W.Frag) : Sp := fun vs H Q _ => ∃ (a : Addr) (b : List Int), vs = [.ref a] ∧ SqL K H a (b.map V.int) ∧ Blk b ∧ ∀ v H', Same H H' → Dp K H' v (pieceD b) → Q v H'
theorem scDp : FnScope ["block", "_", "index", "many", "high", "low", "length", "known", "end", "codes", "char", "code"] ["block"] (defScope sDecP) := ⟨rfl, rfl, rfl, by decide +kernel, rfl, by decide +kernel, by decide +kernel⟩
theorem ok_decP {f fM fZ : Addr} {fd fdM fdZ : FuncData} (F : Fun K "decode_piece" "decode_piece" sDecP f fd) (M : NamesW mg) (T : TopW mg) (FM : Fun K "has_marks" "has_marks" sMarks fM fdM) (mM : mg "has_marks" = some (.ref fM)) (bM : Binds K fdM ["block", "mark"] [])
    (FZ : Fun K "are_zeros" "are_zeros" sZeros fZ fdZ) (mZ : mg "are_zeros" = some (.ref fZ)) (bZ : Binds K fdZ ["numbers"] []) :
    FnOk P w K mg base CX0 2 f fd ["block"] (spDecP K) := by
  have GM : FnOk P w K mg base CX0 1 fM fdM ["block", "mark"] (spMarks K) := ok_marks FM
  have GZ : FnOk P w K mg base CX0 1 fZ fdZ ["numbers"] (spZeros K) := ok_zeros FZ M
  have kM := FM.kp
  have kZ := FZ.kp
  obtain ⟨t1, at6⟩ := T.at6
  obtain ⟨t2, pc⟩ := T.pc
  obtain ⟨t3, pm⟩ := T.pm
  obtain ⟨z, t4, ch, hz⟩ := T.ch
  refine F.ok scDp (fun vs H Q E h => ?_) (fun cdv A outer s H vs Q E hr h => ?_)
  · obtain ⟨a, b, rfl, _⟩ := h
    rfl
  · obtain ⟨a, b, rfl, ha, hb, q⟩ := h
    have nd := scDp.nd
    refine ⟨_, (pss_cons (ps_asg (pe_slice sl_list (pv 0) po_none (po_some (pe_glob (v := .int 6) rfl at6 ⟨_, rfl⟩))) (pg_unl (by rfl) (pgs_cons (pg_name (i := 1) nd rfl (Or.inl rfl)) (pgs_cons (pg_name (i := 2) nd rfl (Or.inl rfl)) (pgs_cons (pg_name (i := 3) nd rfl (Or.inl rfl)) (pgs_cons (pg_name (i := 4) nd rfl (Or.inl rfl)) (pgs_cons (pg_name (i := 5) nd rfl (Or.inl rfl)) (pgs_cons (pg_name (i := 6) nd rfl (Or.inl rfl)) pgs_nil))))))))
        (pss_cons (ps_if (PW.pt (pw_or (pt_not (pt_val (pe_call GM (hr.mono (by decide)) rfl mM kM bM .nil pass0 (pa_cons (pv 0) (pa_cons (pe_glob (v := .int 74) rfl pm ⟨_, rfl⟩) pa_nil))))) (pw_or (pt_cmpR op_ge (pv 2) (pv 3) (nomark _)) (pw_or1 (pt_cmpR op_gt (pv 6) (pe_glob (v := .int 24) rfl pc ⟨_, rfl⟩) (nomark _)))))) (pss_one (ps_ret pe_non)) pss_nil)
        (pss_cons (ps_set (i := 7) nd rfl (Or.inr rfl) (pe_dc (own := [("char", 10)]) (g := (gName 10)) rfl nd (pi_str (pe_glob (v := .str z) rfl ch ⟨_, rfl⟩)) (blkOk_by (N := ["block", "_", "index", "many", "high", "low", "length", "known", "end", "codes", "char", "code"]) (sc := (defScope sDecP)) (by decide +kernel)) (fun _ _ _ _ _ => (pg_name (i := 10) nd rfl (Or.inl rfl))) (fun _ _ _ _ _ => pts_nil) (fun _ _ _ _ _ => (pe_callB call_ord (by rfl) M.ord (by decide +kernel) (pa_cons (pv 10) pa_nil))) (fun _ _ _ _ _ => (pv 10))))
        (pss_cons (ps_set (i := 8) nd rfl (Or.inl rfl) (pe_op op_add (pe_glob (v := .int 6) rfl at6 ⟨_, rfl⟩) (pv 6)))
        (pss_cons (ps_set (i := 9) nd rfl (Or.inl rfl) (pe_slice sl_list (pv 0) (po_some (pe_glob (v := .int 6) rfl at6 ⟨_, rfl⟩)) (po_some (pv 8))))
        (pss_cons (ps_if (PW.pt (pw_or (pt_not (pt_val (pe_callB (cr_all rfl) (by rfl) M.all (by decide +kernel) (pa_cons (pe_lc (own := [("code", 11)]) (g := (gName 11)) rfl nd (pi_list (pv 9)) (blkOk_by (N := ["block", "_", "index", "many", "high", "low", "length", "known", "end", "codes", "char", "code"]) (sc := (defScope sDecP)) (by decide +kernel)) (fun _ _ _ _ _ => (pg_name (i := 11) nd rfl (Or.inl rfl))) (fun _ _ _ _ _ => pts_nil) (fun _ _ _ _ _ => (pe_cmp (pc_din (hu_of hr) (pv 11) (pv 7))))) pa_nil)))) (pw_or1 (pt_not (pt_val (pe_call GZ (hr.mono (by decide)) rfl mZ kZ bZ .nil pass0 (pa_cons (pe_slice sl_list (pv 0) (po_some (pv 8)) (po_some (pe_un un_neg pe_int))) pa_nil))))))) (pss_one (ps_ret pe_non)) pss_nil)
        (pss_one (ps_ret (pe_tup (pa_cons (pv 2) (pa_cons (pv 3) (pa_cons (pe_op op_add (pe_op op_mul pe_int (pv 4)) (pv 5)) (pa_cons (pe_join pe_str (pe_lc (own := [("code", 11)]) (g := (gName 11)) rfl nd (pi_list (pv 9)) (blkOk_by (N := ["block", "_", "index", "many", "high", "low", "length", "known", "end", "codes", "char", "code"]) (sc := (defScope sDecP)) (by decide +kernel)) (fun _ _ _ _ _ => (pg_name (i := 11) nd rfl (Or.inl rfl))) (fun _ _ _ _ _ => pts_nil) (fun _ _ _ _ _ => (pe_dget (hu_of hr) (pv 7) (pv 11) (fun _ _ => rfl))))) pa_nil))))))))))))), ?_⟩
    have take6 : cutA b none (some 6) = [gI b 0, gI b 1, gI b 2, gI b 3, gI b 4, gI b 5] := by
      rw [show (6 : Int) = ((6 : Nat) : Int) from rfl, cutA_head b 6 (by rw [hb.1]; decide)]
      have hl := hb.1
      match b, hl with
      | _ :: _ :: _ :: _ :: _ :: _ :: _, _ => rfl
    have no : ∀ H', Same H H' → isPiece b = false → Q .non H' := fun H' S e => q _ H' S (by unfold pieceD; rw [if_neg (by rw [e]; decide)]; exact .non)
    refine ⟨_, rfl, _, rfl, a, _, rfl, ha, fun p np => ?_⟩
    rw [cutI, take6]
    refine ⟨p, _, rfl, SqL.of upd_same, rfl, _, _, rfl, _, _, rfl, _, _, rfl, _, _, rfl, _, _, rfl, _, _, rfl, rfl, ?_⟩
    have S1 := same_new (o := .lst ([gI b 0, gI b 1, gI b 2, gI b 3, gI b 4, gI b 5].map V.int)) np
    generalize upd H p (.lst ([gI b 0, gI b 1, gI b 2, gI b 3, gI b 4, gI b 5].map V.int)) = H1 at S1
    refine ⟨_, rfl, a, b, 74, rfl, sqL_same S1 ha, hb, _, rfl, ite2 (fun c => ?_) (fun c => ?_)⟩
    · exact no H1 S1 (by unfold isPiece; rw [bn c]; rfl)
    have c := bp c
    refine ⟨_, rfl, _, rfl, _, _, rfl, rfl, _, rfl, ite2 (fun c1 => ?_) (fun c1 => ?_)⟩
    · refine no H1 S1 ?_
      unfold isPiece
      rw [c, c1]
      rfl
    refine ⟨_, rfl, _, _, rfl, rfl, _, rfl, ite2 (fun c2 => ?_) (fun c2 => ?_)⟩
    · refine no H1 S1 ?_
      unfold isPiece
      rw [show decide (gI b 5 > 24) = true from c2]
      simp
    have zl : z.cps.size = charL.length := by rw [← hz]; exact (Array.length_toList).symm
    refine ⟨z, rfl, fun D nD => ?_⟩
    refine dc_it walk_str (fun i H' => Same H1 H' ∧ H' D = some (.dK (signD (charL.take i)))) ⟨same_new nD, upd_same⟩ (fun _ _ _ _ => trivial) ?_ ?_
    · rintro i x H2 H3 hi ⟨S2, hD⟩ ⟨rfl, ch0, hc, rfl⟩
      have hc2 : charL[i]? = some ch0 := by
        rw [← hz]
        exact (Array.getElem?_toList).trans hc
      refine ⟨rfl, _, rfl, _, rfl, rfl, _, rfl, signD (charL.take i), .inl (ch0 : Int), rfl, hD, ?_, same_upd S2 nD, ?_⟩
      · have := signD_short (charL.take i)
        rw [List.length_take] at this
        have e : charL.length = 95 := by decide +kernel
        exact small_line (by omega)
      · rw [takeS hc2, signD_snoc]
        exact upd_same
    rintro H2 ⟨S2, hD⟩
    rw [zl, List.take_length] at hD
    have S2 := S1.trans S2
    refine ⟨_, rfl, _, _, rfl, rfl, _, rfl, _, rfl, _, rfl, _, rfl, a, _, rfl, sqL_same S2 ha, fun p2 np2 => ?_⟩
    rw [cutI, show cutA b (some 6) (some (6 + gI b 5)) = codesOf b from rfl]
    have S3 := S2.trans (same_new (o := .lst ((codesOf b).map V.int)) np2)
    have hp2 : upd H2 p2 (.lst ((codesOf b).map V.int)) p2 = some (.lst ((codesOf b).map V.int)) := upd_same
    have hD3 := same_new (o := .lst ((codesOf b).map V.int)) np2 _ _ hD
    have clen : (codesOf b).length ≤ 32 := by
      have := cutA_len b (some 6) (some (6 + gI b 5))
      rw [hb.1] at this
      exact this
    generalize upd H2 p2 (.lst ((codesOf b).map V.int)) = H3 at *
    refine ⟨_, rfl, p2, rfl, ⟨_, SqL.of hp2⟩, fun D2 nD2 => ?_⟩
    refine lc_list (K := K) (xs := (codesOf b).map V.int) (fun j H' => Same H3 H' ∧ H' D2 = some (.lst (((codesOf b).take j).map fun x => V.bl (isSg x)))) ⟨same_new nD2, upd_same⟩ (fun j H' _ h => SqL.of (h.1 _ _ hp2)) ?_ ?_
    · rintro j x H4 hx ⟨S4, hD2⟩
      obtain ⟨n, hn, rfl⟩ := map_at hx
      refine ⟨rfl, _, rfl, _, rfl, D, _, rfl, DGet.k (k := Sum.inl n) (S4 _ _ hD3), _, hD2, ?_, same_upd S4 nD2, ?_⟩
      · rw [List.length_map, List.length_take]
        exact small_line (by omega)
      · rw [takeS hn, List.map_append, char_some]
        exact upd_same
    rintro H4 ⟨S4, hD2⟩
    rw [List.length_map, List.take_length] at hD2
    have S34 := S4
    have S4 := S3.trans S4
    have eb : ((codesOf b).map fun x => V.bl (isSg x)) = ((codesOf b).map isSg).map V.bl := by rw [List.map_map]; rfl
    rw [eb] at hD2
    refine ⟨D2, _, rfl, SqL.of hD2, ?_⟩
    rw [all_map]
    refine ⟨_, rfl, ite2 (fun c3 => ?_) (fun c3 => ?_)⟩
    · refine no H4 S4 ?_
      unfold isPiece
      rw [bn c3]
      simp
    have c3 := bp c3
    refine ⟨_, rfl, _, rfl, _, rfl, _, rfl, _, rfl, a, _, rfl, sqL_same S4 ha, fun p3 np3 => ?_⟩
    rw [cutI, cutA_last b _ 31 hb.1, show cutA b (some (6 + gI b 5)) (some ((31 : Nat) : Int)) = restOf b from rfl]
    refine ⟨p3, restOf b, rfl, SqL.of upd_same, ?_, fun H5 S5 => ⟨_, rfl, ite2 (fun c4 => ?_) (fun c4 => ?_)⟩⟩
    · have := cutA_len b (some (6 + gI b 5)) (some 31)
      have := hb.1
      unfold restOf
      omega
    · refine no H5 ((S4.trans (same_new np3)).trans S5) ?_
      unfold isPiece
      rw [bn c4]
      simp
    have c4 := bp c4
    have S35 := (S4.trans (same_new np3)).trans S5
    have hpc : isPiece b = true := by
      have k1 : decide (gI b 1 ≥ gI b 2) = false := Bool.eq_false_iff.mpr c1
      have k2 : decide (gI b 5 > 24) = false := Bool.eq_false_iff.mpr c2
      unfold isPiece
      rw [c, c3, c4, k1, k2]
      rfl
    have S5' := (S34.trans (same_new np3)).trans S5
    have sgs : ∀ x ∈ codesOf b, isSg x = true := fun x hx => List.all_eq_true.mp c3 x hx
    have val : ∀ x ∈ codesOf b, valV (signD charL) (.inl x) = some (.str (ofL [x.toNat])) := fun x hx => by rw [char_val, if_pos (sgs x hx)]
    refine ⟨_, rfl, _, rfl, _, rfl, _, _, rfl, rfl, .inl ⟨by decide, by decide⟩, _, rfl, _, _, rfl, rfl, ⟨_, rfl⟩, _, rfl, p2, rfl, ⟨_, SqL.of (S5' _ _ hp2)⟩, fun D3 nD3 => ?_⟩
    refine lc_list (K := K) (xs := (codesOf b).map V.int) (fun j H' => Same H5 H' ∧ H' D3 = some (.lst (((codesOf b).take j).map fun x => V.str (ofL [x.toNat])))) ⟨same_new nD3, upd_same⟩ (fun j H' _ h => SqL.of (h.1 _ _ (S5' _ _ hp2))) ?_ ?_
    · rintro j x H6 hx ⟨S6, hD6⟩
      obtain ⟨n, hn, rfl⟩ := map_at hx
      refine ⟨rfl, _, rfl, _, rfl, D, .str (ofL [n.toNat]), rfl, ?_, _, hD6, ?_, same_upd S6 nD3, ?_⟩
      · have g := DGet.k (k := Sum.inl n) (S6 _ _ (S5' _ _ hD3))
        rw [val n (List.mem_of_getElem? hn)] at g
        exact g
      · rw [List.length_map, List.length_take]
        exact small_line (by omega)
      · rw [takeS hn, List.map_append]
        exact upd_same
    rintro H6 ⟨S6, hD6⟩
    rw [List.length_map, List.take_length] at hD6
    have ej : ((codesOf b).map fun x => V.str (ofL [x.toNat])) = (((codesOf b).map Int.toNat).map fun c => ofL [c]).map V.str := by
      rw [List.map_map, List.map_map]
      rfl
    rw [ej] at hD6
    refine ⟨_, D3, _, rfl, rfl, .inl (SqL.of hD6), ?_, ?_⟩
    · refine ones_room ?_
      rw [List.length_map]
      omega
    rw [join_ofL]
    refine ⟨(by show 4 ≤ sizeLine; decide), fun u nu => ?_⟩
    have S7 := same_new (o := .tup [.int (gI b 1), .int (gI b 2), .int (256 * gI b 3 + gI b 4), .str (txtOf (codesOf b))]) nu
    refine q _ _ ((S35.trans S6).trans S7) ?_
    unfold pieceD
    rw [if_pos hpc]
    exact .tup (SqT.of upd_same) (.cons (.int _) (.cons (.int _) (.cons (.int _) (.cons (.str _) .nil))))
end
end LB

set_option maxRecDepth 100000
set_option maxHeartbeats 8000000
namespace LB
open PySem PySem.Spec PyProof.Rows L2 TL
/-! ### the law's pieces and texts -/
/-- codes of a text -/
def Sgs (cs : List Nat) : Prop := ∀ c ∈ cs, isSg (c : Int) = true
def partOf (cs : List Nat) (k : Nat) : List Nat := (cs.drop (24 * k)).take 24
def manyOf (cs : List Nat) : Nat := max 1 ((cs.length + 23) / 24)
def rowOf (n : Int) (cs : List Nat) (k : Nat) : List Int :=
  [74, (k : Int), (manyOf cs : Int), n / 256, n % 256, ((partOf cs k).length : Int)] ++ (partOf cs k).map (fun (c : Nat) => (c : Int)) ++ List.replicate (25 - (partOf cs k).length) 0 ++ [74]
theorem part_len (cs : List Nat) (k : Nat) : (partOf cs k).length ≤ 24 := by
  unfold partOf
  rw [List.length_take]
  omega
theorem row_len (n : Int) (cs : List Nat) (k : Nat) : (rowOf n cs k).length = 32 := by
  have h := part_len cs k
  unfold rowOf
  simp only [List.length_append, List.length_map, List.length_replicate, List.length_cons, List.length_nil]
  omega
theorem sg_byte {c : Nat} (h : isSg (c : Int) = true) : (c : Int) ≤ 126 := by
  unfold isSg at h
  simp only [Bool.or_eq_true, Bool.and_eq_true, decide_eq_true_eq] at h
  omega
theorem part_sg {cs : List Nat} (h : Sgs cs) (k : Nat) : Sgs (partOf cs k) := fun c hc => h c (List.mem_of_mem_drop (List.mem_of_mem_take hc))
theorem row_blk {n : Int} {cs : List Nat} {k : Nat} (hn : 0 ≤ n ∧ n < 65536) (hs : Sgs cs) (hm : manyOf cs ≤ 255) (hk : k < manyOf cs) : Blk (rowOf n cs k) := by
  refine ⟨row_len n cs k, fun x hx => ?_⟩
  have h := part_len cs k
  unfold rowOf at hx
  simp only [List.mem_append, List.mem_cons, List.mem_map, List.mem_replicate, List.not_mem_nil, or_false] at hx
  rcases hx with ((((e | e | e | e | e | e) | ⟨c, hc, e⟩) | ⟨_, e⟩) | e)
  · omega
  · omega
  · omega
  · omega
  · omega
  · omega
  · have := sg_byte (part_sg hs k c hc)
    omega
  · omega
  · omega
theorem row_get {n : Int} {cs : List Nat} {k : Nat} : gI (rowOf n cs k) 0 = 74 ∧ gI (rowOf n cs k) 1 = k ∧ gI (rowOf n cs k) 2 = manyOf cs ∧ gI (rowOf n cs k) 3 = n / 256 ∧ gI (rowOf n cs k) 4 = n % 256 ∧ gI (rowOf n cs k) 5 = (partOf cs k).length ∧ gI (rowOf n cs k) 31 = 74 := by
  refine ⟨rfl, rfl, rfl, rfl, rfl, rfl, ?_⟩
  have h := part_len cs k
  unfold gI rowOf
  rw [List.getD_eq_getElem?_getD, List.getElem?_append_right (by simp only [List.length_append, List.length_map, List.length_replicate, List.length_cons, List.length_nil]; omega)]
  simp only [List.length_append, List.length_map, List.length_replicate, List.length_cons, List.length_nil]
  have e : 31 - (0 + 1 + 1 + 1 + 1 + 1 + 1 + (partOf cs k).length + (25 - (partOf cs k).length)) = 0 := by omega
  rw [e]
  rfl
theorem row_codes {n : Int} {cs : List Nat} {k : Nat} : codesOf (rowOf n cs k) = (partOf cs k).map fun (c : Nat) => (c : Int) := by
  have h := part_len cs k
  unfold codesOf
  rw [row_get.2.2.2.2.2.1]
  have e : (6 : Int) + ((partOf cs k).length : Int) = ((6 + (partOf cs k).length : Nat) : Int) := by omega
  rw [e, show (6 : Int) = ((6 : Nat) : Int) from rfl, cutA_nat _ _ _ (by rw [row_len]; omega) (by rw [row_len]; omega)]
  unfold rowOf
  rw [List.append_assoc, List.append_assoc]
  show List.take (6 + (partOf cs k).length - 6) ((partOf cs k).map (fun (c : Nat) => (c : Int)) ++ _) = _
  rw [show 6 + (partOf cs k).length - 6 = ((partOf cs k).map fun (c : Nat) => (c : Int)).length by rw [List.length_map]; omega, List.take_left]
theorem row_rest {n : Int} {cs : List Nat} {k : Nat} : restOf (rowOf n cs k) = List.replicate (25 - (partOf cs k).length) 0 := by
  have h := part_len cs k
  unfold restOf
  rw [row_get.2.2.2.2.2.1]
  have e : (6 : Int) + ((partOf cs k).length : Int) = ((6 + (partOf cs k).length : Nat) : Int) := by omega
  rw [e, show (31 : Int) = ((31 : Nat) : Int) from rfl, cutA_nat _ _ _ (by rw [row_len]; omega) (by rw [row_len]; omega)]
  unfold rowOf
  rw [List.append_assoc]
  have e2 : 6 + (partOf cs k).length = ([74, (k : Int), (manyOf cs : Int), n / 256, n % 256, ((partOf cs k).length : Int)] ++ (partOf cs k).map (fun (c : Nat) => (c : Int))).length := by
    simp only [List.length_append, List.length_map, List.length_cons, List.length_nil]
  rw [e2, List.drop_left]
  have e3 : 31 - ([74, (k : Int), (manyOf cs : Int), n / 256, n % 256, ((partOf cs k).length : Int)] ++ (partOf cs k).map (fun (c : Nat) => (c : Int))).length = (List.replicate (25 - (partOf cs k).length) (0 : Int)).length := by
    rw [← e2, List.length_replicate]
    omega
  rw [e3, List.take_left]
theorem zeros_rep (n : Nat) : zerosOf (List.replicate n 0) = true := List.all_eq_true.mpr fun x hx => by rw [(List.mem_replicate.mp hx).2]; rfl
theorem cut_part {cs : List Nat} {k : Nat} : cutS (ofL cs) (some (24 * (0 + (k : Int)))) (some (24 * (0 + (k : Int)) + 24)) = ofL (partOf cs k) := by
  have e1 : (24 : Int) * (0 + (k : Int)) = ((24 * k : Nat) : Int) := by omega
  have e2 : ((24 * k : Nat) : Int) + 24 = ((24 * k + 24 : Nat) : Int) := by omega
  rw [e1, e2, cutS_ofL, cutA_mid]
  unfold partOf
  rw [show 24 * k + 24 - 24 * k = 24 by omega]
theorem row_piece {n : Int} {cs : List Nat} {k : Nat} (hs : Sgs cs) (hk : k < manyOf cs) : isPiece (rowOf n cs k) = true := by
  have h := part_len cs k
  obtain ⟨g0, g1, g2, g3, g4, g5, g31⟩ := row_get (n := n) (cs := cs) (k := k)
  unfold isPiece marksOf
  rw [g0, g31, g1, g2, g5, row_codes, row_rest, zeros_rep]
  have h1 : ¬ ((k : Int) ≥ (manyOf cs : Int)) := by omega
  have h2 : ¬ (((partOf cs k).length : Int) > 24) := by omega
  have h3 : ((partOf cs k).map fun (c : Nat) => (c : Int)).all isSg = true := List.all_eq_true.mpr fun x hx => by
    obtain ⟨c, hc, rfl⟩ := List.mem_map.mp hx
    exact part_sg hs k c hc
  rw [decide_eq_false h1, decide_eq_false h2, h3]
  rfl
theorem row_text {n : Int} {cs : List Nat} {k : Nat} : txtOf (codesOf (rowOf n cs k)) = ofL (partOf cs k) := by
  unfold txtOf
  rw [row_codes, List.map_map]
  congr 1
  conv => rhs; rw [← List.map_id (partOf cs k)]
  exact List.map_congr_left fun c _ => Int.toNat_natCast c
theorem ixN_at {n j : Nat} (h : j < n) : ixN n (j : Int) = some j := by
  unfold ixN
  rw [if_pos (Int.natCast_nonneg j), if_pos (by omega), Int.toNat_natCast]
theorem But.offNone {b : Addr} {H H' : Hp} {p : Addr} (B : Box H b) (U : But b H H') (n : H' p = none) : H p = none := by
  by_cases e : p = b
  · obtain ⟨l, ds, k, h, _⟩ := B
    obtain ⟨k', h'⟩ := U.d l k h
    rw [e, h'] at n
    cases n
  · cases h : H p with
    | none => rfl
    | some o => rw [U.k p o e h] at n; cases n
def headOf (x y : Int) : List Int := [72, x, y] ++ List.replicate 28 0 ++ [72]
theorem head_blk {x y : Int} (hx : 0 ≤ x ∧ x ≤ 255) (hy : 0 ≤ y ∧ y ≤ 255) : Blk (headOf x y) := by
  refine ⟨rfl, fun v hv => ?_⟩
  unfold headOf at hv
  simp only [List.mem_append, List.mem_cons, List.mem_replicate, List.not_mem_nil, or_false] at hv
  omega
theorem txt_ok {cs : List Int} (h : ∀ x ∈ cs, x ≤ 255) : PyData.strOk (txtOf cs) = true := by
  show (txtOf cs).cps.all (· < 0x110000) = true
  rw [← Array.all_toList]
  refine List.all_eq_true.mpr fun c hc => ?_
  have hc : c ∈ cs.map Int.toNat := by
    have e : (txtOf cs).cps.toList = cs.map Int.toNat := tl_ofL _
    rw [e] at hc
    exact hc
  obtain ⟨x, hx, rfl⟩ := List.mem_map.mp hc
  have := h x hx
  exact decide_eq_true (by omega)
theorem codes_le {b : List Int} (h : Blk b) : ∀ x ∈ codesOf b, x ≤ 255 := fun x hx => by
  unfold codesOf cutA at hx
  exact (h.2 x (List.mem_of_mem_drop (List.mem_of_mem_take hx))).2
theorem shaped_piece {b : List Int} (h : Blk b) : SeqAt.shaped (pieceD b) = true := by
  unfold pieceD
  split
  · show (PyData.canLay0 (.tuple [.int _, .int _, .int _, .str (txtOf (codesOf b))]) && _) = true
    have e : PyData.canLay0 (.tuple [.int (gI b 1), .int (gI b 2), .int (256 * gI b 3 + gI b 4), .str (txtOf (codesOf b))]) = true := by
      show (true && (true && (true && (PyData.strOk (txtOf (codesOf b)) && true)))) = true
      rw [txt_ok (codes_le h)]
      rfl
    rw [e]
    rfl
  · rfl
theorem shaped_head (b : List Int) : SeqAt.shaped (headD b) = true := by
  unfold headD
  split <;> rfl
theorem eqv_self {d : PyData} (h : SeqAt.shaped d = true) : PyData.eqv d d = true := SeqAt.eqv_refl _ (SeqAt.canLay_of_shaped h)
section
variable {P : Program} {w : World} {K : PySem.W.Frag} {mg : Str → Option Value} {base : Heap}
/-- the signs of a drawn text -/
def signL : List Nat := (List.range' 32 95).filter (· ≠ 37) ++ [10]
theorem signL_sg : signL.all (fun (c : Nat) => isSg (c : Int)) = true := by decide +kernel
theorem signL_len : signL.length = 95 := by decide +kernel
def signS : Str := litOf (defBody sStored)
theorem signS_tl : tl signS = signL := by decide +kernel
theorem signS_len : signS.length = 95 := by decide +kernel
def spStored (K : PySem.W.Frag) : Sp := fun vs H Q _ => ∃ (b : Addr) (m : Int), vs = [.ref b, .int m] ∧ Box H b ∧ 0 ≤ m ∧ m ≤ 200 ∧ ∀ (cs : List Nat) (H' : Hp), cs.length = m.toNat → Sgs cs → Box H' b → But b H H' → Q (.str (ofL cs)) H'
theorem scSt : FnScope ["box", "many", "signs", "text", "turn"] ["box", "many"] (defScope sStored) := ⟨rfl, rfl, rfl, by decide +kernel, rfl, by decide +kernel, by decide +kernel⟩
theorem ok_stored {f fD : Addr} {fd fdD : FuncData} (F : Fun K "_law_stored_text" "_law_stored_text" sStored f fd) (M : NamesW mg) (FD : Fun K "_law_draw" "_law_draw" sDraw fD fdD) (mD : mg "_law_draw" = some (.ref fD)) (bD : Binds K fdD ["box", "many"] []) :
    FnOk P w K mg base CX0 2 f fd ["box", "many"] (spStored K) := by
  have GD : FnOk P w K mg base CX0 1 fD fdD ["box", "many"] (spDraw K) := ok_draw FD M.toNames
  have kD := FD.kp
  refine F.ok scSt (fun vs H Q E h => ?_) (fun cdv A outer s H vs Q E hr h => ?_)
  · obtain ⟨b, m, rfl, _⟩ := h
    rfl
  · obtain ⟨b, m, rfl, B, h0, h1, q⟩ := h
    have nd := scSt.nd
    refine ⟨_, (pss_cons (ps_set (i := 2) nd rfl (Or.inl rfl) pe_str)
        (pss_cons (ps_set (i := 3) nd rfl (Or.inl rfl) pe_str)
        (pss_cons (ps_for PassesOwn.never rfl (pi_range1 (by rfl) M.range (pa_cons (pv 1) pa_nil)) (pg_name (i := 4) nd rfl (Or.inl rfl)) (pss_one (ps_set (i := 3) nd rfl (Or.inl rfl) (pe_op op_add_str (pv 3) (pe_ix ix_str (pv 2) (pe_call GD (hr.mono (by decide)) rfl mD kD bD .nil pass0 (pa_cons (pv 0) (pa_cons (pe_callB call_lenS (by rfl) M.len PySem.boot_len (pa_cons (pv 2) pa_nil)) pa_nil))) (fun _ _ => rfl))))))
        (pss_one (ps_ret (pv 3)))))), ?_⟩
    have sl := signS_len
    refine ⟨_, rfl, _, rfl, by omega, by omega, for_range (n := m.toNat) (fun j σ H' => ∃ (cs : List Nat) (v4 : Option V), σ = [some (.ref b), some (.int m), some (.str signS), some (.str (ofL cs)), v4] ∧ cs.length = j ∧ Sgs cs ∧ Box H' b ∧ But b H H')
      ⟨[], _, rfl, rfl, (fun c hc => nomatch hc), B, But.refl b H⟩ ?_ ?_⟩
    · rintro j σ H1 hj ⟨cs, v4, rfl, cl, sg, B1, U1⟩
      refine ⟨_, rfl, _, rfl, _, rfl, _, rfl, signS, rfl, by rw [sl]; decide, b, _, rfl, B1, by rw [sl]; decide, fun r H2 r0 r1 B2 U2 => ?_⟩
      rw [sl] at r1
      obtain ⟨k, rfl⟩ : ∃ k : Nat, r = (k : Int) := ⟨r.toNat, by omega⟩
      have hk : k < signL.length := by rw [signL_len]; omega
      have hg := List.getElem?_eq_getElem hk
      have sgk := List.all_eq_true.mp signL_sg _ (List.getElem_mem hk)
      generalize signL[k] = c at hg sgk
      refine ⟨signS, _, c, rfl, rfl, by rw [sl]; decide, atI_nat (j := k) (by rw [← signS_tl] at hg; exact hg), _, _, rfl, rfl, ?_, cs ++ [c], _, by rw [← ofL_app]; rfl, by rw [List.length_append, cl]; rfl, fun d hd => ?_, B2, U1.trans U2⟩
      · rw [ofL_len]
        show cs.length + 1 ≤ sizeLine
        exact Nat.le_trans (m := 300) (by omega) (by decide)
      · rcases List.mem_append.mp hd with h | h
        · exact sg d h
        · rw [List.mem_singleton.mp h]
          exact sgk
    · rintro σ H1 ⟨cs, v4, rfl, cl, sg, B1, U1⟩
      exact ⟨_, rfl, q cs H1 cl sg B1 U1⟩
def spPieces (K : PySem.W.Frag) : Sp := fun vs H Q _ => ∃ (n : Int) (cs : List Nat), vs = [.int n, .str (ofL cs)] ∧ 0 ≤ n ∧ n < 65536 ∧ cs.length ≤ 200 ∧
  ∀ (D : Addr) (rs : List Addr) (H' : Hp), Same H H' → H D = none → H' D = some (.lst (rs.map V.ref)) → rs.length = manyOf cs → (∀ k r, rs[k]? = some r → H r = none ∧ H' r = some (.lst ((rowOf n cs k).map V.int))) → Q (.ref D) H'
theorem scPi : FnScope ["number", "text", "blocks", "many", "k", "part", "block", "sign"] ["number", "text"] (defScope sPieces) := ⟨rfl, rfl, rfl, by decide +kernel, rfl, by decide +kernel, by decide +kernel⟩
theorem ok_pieces {f : Addr} {fd : FuncData} (F : Fun K "_law_pieces" "_law_pieces" sPieces f fd) (M : NamesW mg) :
    FnOk P w K mg base CX0 1 f fd ["number", "text"] (spPieces K) := by
  refine F.ok scPi (fun vs H Q E h => ?_) (fun cdv A outer s H vs Q E hr h => ?_)
  · obtain ⟨n, cs, rfl, _⟩ := h
    rfl
  · obtain ⟨n, cs, rfl, h0, h1, hl, q⟩ := h
    have nd := scPi.nd
    refine ⟨_, (pss_cons (ps_set (i := 2) nd rfl (Or.inl rfl) (pe_lst pa_nil))
        (pss_cons (ps_set (i := 3) nd rfl (Or.inl rfl) (pe_callB (call_max2 rfl) (by rfl) M.max (by decide +kernel) (pa_cons pe_int (pa_cons (pe_op op_fdiv (pe_op op_add (pe_callB call_lenS (by rfl) M.len PySem.boot_len (pa_cons (pv 1) pa_nil)) pe_int) pe_int) pa_nil))))
        (pss_cons (ps_for PassesOwn.never rfl (pi_range1 (by rfl) M.range (pa_cons (pv 3) pa_nil)) (pg_name (i := 4) nd rfl (Or.inl rfl)) (pss_cons (ps_set (i := 5) nd rfl (Or.inl rfl) (pe_slice sl_str (pv 1) (po_some (pe_op op_mul pe_int (pv 4))) (po_some (pe_op op_add (pe_op op_mul pe_int (pv 4)) pe_int))))
        (pss_cons (ps_set (i := 6) nd rfl (Or.inl rfl) (pe_lst (pa_cons pe_int (pa_cons (pv 4) (pa_cons (pv 3) (pa_cons (pe_op op_fdiv (pv 0) pe_int) (pa_cons (pe_op op_mod (pe_callTy call_int1 (by rfl) M.int (by decide +kernel) (pa_cons (pv 0) pa_nil)) pe_int) (pa_cons (pe_callB call_lenS (by rfl) M.len PySem.boot_len (pa_cons (pv 5) pa_nil)) pa_nil))))))))
        (pss_cons (ps_for PassesOwn.never rfl (pi_str (pv 5)) (pg_name (i := 7) nd rfl (Or.inl rfl)) (pss_one (ps_expr (pe_bm PySem.F.plainAttrs_list PySem.F.slot_list_append PySem.F.type_list_append mt_append (pv 6) (pa_cons (pe_callB call_ord (by rfl) M.ord (by decide +kernel) (pa_cons (pv 7) pa_nil)) pa_nil)))))
        (pss_one (ps_expr (pe_bm PySem.F.plainAttrs_list PySem.F.slot_list_append PySem.F.type_list_append mt_append (pv 2) (pa_cons (pe_op op_cat (pe_op op_cat (pv 6) (pe_op op_rep (pe_lst (pa_cons pe_int pa_nil)) (pe_op op_sub pe_int (pe_callB call_len_seq (by rfl) M.len PySem.boot_len (pa_cons (pv 6) pa_nil))))) (pe_lst (pa_cons pe_int pa_nil))) pa_nil))))))))
        (pss_one (ps_ret (pv 2)))))), ?_⟩
    have tl0 : (ofL cs).length ≤ sizeLine := by rw [ofL_len]; exact Nat.le_trans hl (by decide)
    refine ⟨(by show 0 ≤ sizeLine; decide), fun D nD => ?_⟩
    have em : (if ((((ofL cs).length : Int) + 23) / 24) > 1 then ((((ofL cs).length : Int) + 23) / 24) else (1 : Int)) = (manyOf cs : Int) := by
      rw [ofL_len]
      unfold manyOf
      split <;> omega
    refine ⟨_, rfl, _, rfl, tl0, _, _, rfl, rfl, _, _, rfl, rfl, ⟨by decide, by decide⟩, _, _, rfl, ?_⟩
    rw [em]
    have mb : manyOf cs ≤ 10 := by unfold manyOf; omega
    refine ⟨_, rfl, _, rfl, by omega, by omega, for_range (n := ((manyOf cs : Nat) : Int).toNat) (fun k σ H' => ∃ (v4 v5 v6 v7 : Option V) (rs : List Addr), σ = [some (.int n), some (.str (ofL cs)), some (.ref D), some (.int (manyOf cs)), v4, v5, v6, v7] ∧ Same H H' ∧ H' D = some (.lst (rs.map V.ref)) ∧ rs.length = k ∧
        ∀ i r, rs[i]? = some r → H r = none ∧ r ≠ D ∧ H' r = some (.lst ((rowOf n cs i).map V.int)))
      ⟨_, _, _, _, [], rfl, same_new nD, upd_same, rfl, fun i r h => by simp at h⟩ ?_ ?_⟩
    · rintro k σ H1 hk ⟨v4, v5, v6, v7, rs, rfl, S1, hD, rl, hrs⟩
      refine ⟨_, rfl, _, rfl, _, _, rfl, rfl, .inl ⟨by decide, by decide⟩, _, rfl, _, rfl, _, _, rfl, rfl, .inl ⟨by decide, by decide⟩, _, _, rfl, rfl, _, rfl, _, rfl, tl0, ?_⟩
      rw [cut_part]
      have pl := part_len cs k
      have pl0 : (ofL (partOf cs k)).length ≤ sizeLine := by rw [ofL_len]; exact Nat.le_trans pl (by decide)
      refine ⟨_, rfl, _, rfl, _, rfl, _, _, rfl, rfl, ⟨by decide, by decide⟩, _, rfl, .inl ⟨_, rfl, _, _, rfl, rfl, (by show (0 : Int) < 256; decide), _, rfl, _, rfl, pl0, (by show 6 ≤ sizeLine; decide), fun p np => ?_⟩⟩
      have pD : p ≠ D := fun e => by rw [e, hD] at np; cases np
      rw [ofL_len, Int.zero_add]
      have S2 := same_new (o := .lst [V.int 74, V.int (k : Int), V.int (manyOf cs : Int), V.int (n / 256), V.int (n % 256), V.int ((partOf cs k).length : Int)]) np
      have hp : upd H1 p (.lst [V.int 74, V.int (k : Int), V.int (manyOf cs : Int), V.int (n / 256), V.int (n % 256), V.int ((partOf cs k).length : Int)]) p = some (.lst ([74, (k : Int), (manyOf cs : Int), n / 256, n % 256, ((partOf cs k).length : Int)].map V.int)) := upd_same
      generalize upd H1 p (.lst [V.int 74, V.int (k : Int), V.int (manyOf cs : Int), V.int (n / 256), V.int (n % 256), V.int ((partOf cs k).length : Int)]) = H2 at S2 hp
      generalize hpre : [74, (k : Int), (manyOf cs : Int), n / 256, n % 256, ((partOf cs k).length : Int)] = pre at hp
      have prl : pre.length = 6 := by rw [← hpre]; rfl
      refine ⟨_, rfl, _, rfl, for_it walk_str (fun i σ H' => ∃ v7 : Option V, σ = [some (.int n), some (.str (ofL cs)), some (.ref D), some (.int (manyOf cs)), some (.int k), some (.str (ofL (partOf cs k))), some (.ref p), v7] ∧ Same H1 H' ∧ H' p = some (.lst ((pre ++ ((partOf cs k).take i).map fun (c : Nat) => (c : Int)).map V.int)))
        ⟨_, rfl, S2, by rw [hp]; simp⟩ (fun _ _ _ _ _ => trivial) ?_ ?_⟩
      · rintro i x σ H3 H4 hi ⟨v7, rfl, S3, hp3⟩ ⟨rfl, c, hc, rfl⟩
        have hc2 : (partOf cs k)[i]? = some c := by
          rw [← tl_ofL (partOf cs k)]
          exact (Array.getElem?_toList).trans hc
        refine ⟨_, rfl, .inl ⟨rfl, _, SqL.of hp3⟩, _, rfl, _, rfl, rfl, p, _, _, rfl, rfl, hp3, ?_, _, rfl, same_upd S3 np, ?_⟩
        · rw [List.length_map, List.length_append, List.length_map, List.length_take, prl]
          exact small_line (by omega)
        · rw [takeS hc2]
          refine upd_same.trans ?_
          rw [List.map_append (f := fun (c : Nat) => (c : Int)), ← List.append_assoc, List.map_append (f := V.int) (l₁ := pre ++ _)]
          rfl
      · rintro σ H3 ⟨v7, rfl, S3, hp3⟩
        have ez : (ofL (partOf cs k)).cps.size = (partOf cs k).length := ofL_len _
        rw [ez, List.take_length] at hp3
        generalize hblk : pre ++ (partOf cs k).map (fun (c : Nat) => (c : Int)) = blk at hp3
        have bl : blk.length = 6 + (partOf cs k).length := by rw [← hblk, List.length_append, List.length_map, prl]
        have hD3 := S3 _ _ hD
        refine ⟨_, rfl, .inl ⟨rfl, _, SqL.of hD3⟩, _, rfl, (by show 1 ≤ sizeLine; decide), fun p1 np1 => ⟨_, rfl, p, _, rfl, .inl (SqL.of (same_new np1 _ _ hp3)), _, _, rfl, rfl, p1, _, _, rfl, rfl, upd_same, ?_⟩⟩
        rw [List.length_map, bl]
        have pl2 : (31 - ((6 + (partOf cs k).length : Nat) : Int)).toNat = 25 - (partOf cs k).length := by omega
        refine ⟨by omega, by omega, ?_, fun p2 np2 => ?_⟩
        · rw [pl2]
          show 1 * _ ≤ sizeLine
          exact Nat.le_trans (m := 25) (by omega) (by decide)
        rw [pl2, rep_flat]
        have X1 := same_new (o := .lst [V.int 0]) np1
        have X2 := same_new (o := .lst ((List.replicate (25 - (partOf cs k).length) (0 : Int)).map V.int)) np2
        have hp2 : upd (upd H3 p1 (.lst [V.int 0])) p2 (.lst ((List.replicate (25 - (partOf cs k).length) (0 : Int)).map V.int)) p2 = some (.lst ((List.replicate (25 - (partOf cs k).length) (0 : Int)).map V.int)) := upd_same
        have X12 := X1.trans X2
        generalize upd (upd H3 p1 (.lst [V.int 0])) p2 (.lst ((List.replicate (25 - (partOf cs k).length) (0 : Int)).map V.int)) = H4 at X12 hp2
        clear X1 X2
        refine ⟨p, p2, _, _, rfl, rfl, X12 _ _ hp3, hp2, ?_, fun p3 np3 => ?_⟩
        · rw [List.length_map, List.length_map, bl, List.length_replicate]
          exact Nat.le_trans (m := 40) (by omega) (by decide)
        rw [← List.map_append]
        have X3 := X12.trans (same_new (o := .lst ((blk ++ List.replicate (25 - (partOf cs k).length) (0 : Int)).map V.int)) np3)
        have hp3' : upd H4 p3 (.lst ((blk ++ List.replicate (25 - (partOf cs k).length) (0 : Int)).map V.int)) p3 = some (.lst ((blk ++ List.replicate (25 - (partOf cs k).length) (0 : Int)).map V.int)) := upd_same
        generalize upd H4 p3 (.lst ((blk ++ List.replicate (25 - (partOf cs k).length) (0 : Int)).map V.int)) = H5 at X3 hp3'
        refine ⟨(by show 1 ≤ sizeLine; decide), fun p4 np4 => ?_⟩
        have X4 := same_new (o := .lst [V.int 74]) np4
        refine ⟨p3, p4, _, _, rfl, rfl, X4 _ _ hp3', upd_same, ?_, fun p5 np5 => ?_⟩
        · rw [List.length_map, List.length_append, bl, List.length_replicate]
          show _ + 1 ≤ sizeLine
          exact Nat.le_trans (m := 40) (by omega) (by decide)
        have er : (blk ++ List.replicate (25 - (partOf cs k).length) (0 : Int)).map V.int ++ [V.int 74] = (rowOf n cs k).map V.int := by
          rw [← hblk, ← hpre]
          unfold rowOf
          rw [List.map_append (l₂ := [(74 : Int)])]
          rfl
        rw [er]
        have X5 := (X3.trans X4).trans (same_new (o := .lst ((rowOf n cs k).map V.int)) np5)
        have hp5 : upd (upd H5 p4 (.lst [V.int 74])) p5 (.lst ((rowOf n cs k).map V.int)) p5 = some (.lst ((rowOf n cs k).map V.int)) := upd_same
        have n5 : H p5 = none := same_none ((S1.trans S3).trans (X3.trans X4)) np5
        generalize upd (upd H5 p4 (.lst [V.int 74])) p5 (.lst ((rowOf n cs k).map V.int)) = H6 at X5 hp5
        have hD6 := X5 _ _ hD3
        have ne5 : p5 ≠ D := fun e => by rw [e] at np5; rw [(X3.trans X4) _ _ hD3] at np5; cases np5
        refine ⟨D, _, _, rfl, rfl, hD6, ?_, _, _, _, _, rs ++ [p5], rfl, same_upd ((S1.trans S3).trans X5) nD, upd_same.trans (by rw [List.map_append]; rfl), by rw [List.length_append, rl]; rfl, fun i r hr => ?_⟩
        · rw [List.length_map]
          exact small_line (by omega)
        · by_cases hi : i < rs.length
          · rw [List.getElem?_append_left hi] at hr
            obtain ⟨h1, h2, h3⟩ := hrs i r hr
            refine ⟨h1, h2, ?_⟩
            rw [upd_ne h2]
            exact X5 _ _ (S3 _ _ h3)
          · have hi2 : i = rs.length := by
              have := (List.getElem?_eq_some_iff.mp hr).1
              rw [List.length_append] at this
              have : i < rs.length + 1 := this
              omega
            rw [hi2, List.getElem?_append_right (Nat.le_refl _), Nat.sub_self] at hr
            cases hr
            refine ⟨n5, ne5, ?_⟩
            rw [upd_ne ne5, hi2, rl]
            exact hp5
    · rintro σ H1 ⟨v4, v5, v6, v7, rs, rfl, S1, hD, rl, hrs⟩
      refine ⟨_, rfl, q D rs H1 S1 nD hD (by rw [rl, Int.toNat_natCast]) fun k r h => ⟨(hrs k r h).1, (hrs k r h).2.2⟩⟩
end
end LB

set_option maxRecDepth 100000
set_option maxHeartbeats 8000000
namespace LB
open PySem PySem.Spec PyProof.Rows L2 TL
/-! ### the program's records -/
structure NamesX (mg : Str → Option Value) : Prop extends NamesW mg where
  en : mg "enumerate" = none
  isi : mg "isinstance" = none
  tuple : mg "tuple" = none
structure TopX (mg : Str → Option Value) : Prop extends TopW mg where
  blk : ∃ t, mg "BLOCK" = some (.int 32 t)
  most : ∃ t, mg "PIECES_MOST" = some (.int 255 t)
def pieceL (i m n : Int) (p : List Nat) : List Int := [74, i, m, n / 256, n % 256, (p.length : Int)] ++ p.map (fun (c : Nat) => (c : Int)) ++ List.replicate (25 - p.length) 0 ++ [74]
theorem rowOf_eq (n : Int) (cs : List Nat) (k : Nat) : rowOf n cs k = pieceL k (manyOf cs) n (partOf cs k) := rfl
section
variable {P : Program} {w : World} {K : PySem.W.Frag} {mg : Str → Option Value} {base : Heap} {C fI cc cda : Addr}
def spEncH (K : PySem.W.Frag) : Sp := fun vs H Q _ => ∃ g : Int, vs = [.int g] ∧ ∀ (a : Addr) (H' : Hp), Same H H' → H a = none → H' a = some (.lst ((headOf (g / 256) (g % 256)).map V.int)) → Q (.ref a) H'
theorem scEh : FnScope ["grace"] ["grace"] (defScope sEncH) := ⟨rfl, rfl, rfl, by decide +kernel, rfl, by decide +kernel, by decide +kernel⟩
theorem ok_encH {f : Addr} {fd : FuncData} (F : Fun K "encode_head" "encode_head" sEncH f fd) (T : TopX mg) : FnOk P w K mg base CX0 1 f fd ["grace"] (spEncH K) := by
  obtain ⟨t1, hm⟩ := T.hm
  obtain ⟨t2, hb⟩ := T.blk
  refine F.ok scEh (fun vs H Q E h => ?_) (fun cdv A outer s H vs Q E hr h => ?_)
  · obtain ⟨g, rfl, _⟩ := h
    rfl
  · obtain ⟨g, rfl, q⟩ := h
    refine ⟨_, (pss_one (ps_ret (pe_op op_cat (pe_op op_cat (pe_lst (pa_cons (pe_glob (v := .int 72) rfl hm ⟨_, rfl⟩) (pa_cons (pe_op op_fdiv (pv 0) pe_int) (pa_cons (pe_op op_mod (pv 0) pe_int) pa_nil)))) (pe_op op_rep (pe_lst (pa_cons pe_int pa_nil)) (pe_op op_sub (pe_glob (v := .int 32) rfl hb ⟨_, rfl⟩) pe_int))) (pe_lst (pa_cons (pe_glob (v := .int 72) rfl hm ⟨_, rfl⟩) pa_nil))))), ?_⟩
    refine ⟨_, rfl, _, _, rfl, rfl, ⟨by decide, by decide⟩, _, rfl, _, _, rfl, rfl, (by show (0 : Int) < 256; decide), (by show 3 ≤ sizeLine; decide), fun p1 np1 => ?_⟩
    refine ⟨(by show 1 ≤ sizeLine; decide), fun p2 np2 => ⟨_, _, rfl, rfl, p2, 28, _, rfl, rfl, upd_same, by decide, by decide, by decide, fun p3 np3 => ?_⟩⟩
    rw [show ((28 : Int)).toNat = 28 from rfl, rep_flat]
    have X1 := same_new (o := .lst [V.int 72, .int (g / 256), .int (g % 256)]) np1
    have X2 := same_new (o := .lst [V.int 0]) np2
    have X3 := same_new (o := .lst ((List.replicate 28 (0 : Int)).map V.int)) np3
    refine ⟨p1, p3, _, _, rfl, rfl, (X2.trans X3) _ _ upd_same, upd_same, (show 3 + 28 ≤ sizeLine by decide), fun p4 np4 => ?_⟩
    have X4 := same_new (o := .lst ([V.int 72, .int (g / 256), .int (g % 256)] ++ (List.replicate 28 (0 : Int)).map V.int)) np4
    refine ⟨(by show 1 ≤ sizeLine; decide), fun p5 np5 => ?_⟩
    have X5 := same_new (o := .lst [V.int 72]) np5
    refine ⟨p4, p5, _, _, rfl, rfl, X5 _ _ upd_same, upd_same, (show 31 + 1 ≤ sizeLine by decide), fun a na => ?_⟩
    have X := (((X1.trans X2).trans X3).trans X4).trans X5
    exact q a _ (X.trans (same_new na)) (same_none X na) upd_same
def spEncP (K : PySem.W.Frag) : Sp := fun vs H Q _ => ∃ (i m n : Int) (p : List Nat), vs = [.int i, .int m, .int n, .str (ofL p)] ∧ p.length ≤ 24 ∧ ∀ (a : Addr) (H' : Hp), Same H H' → H a = none → H' a = some (.lst ((pieceL i m n p).map V.int)) → Q (.ref a) H'
theorem scEp : FnScope ["index", "many", "number", "text", "start", "codes", "zeros", "char"] ["index", "many", "number", "text"] (defScope sEncP) := ⟨rfl, rfl, rfl, by decide +kernel, rfl, by decide +kernel, by decide +kernel⟩
theorem ok_encP {f : Addr} {fd : FuncData} (F : Fun K "encode_piece" "encode_piece" sEncP f fd) (M : NamesX mg) (T : TopX mg) : FnOk P w K mg base CX0 1 f fd ["index", "many", "number", "text"] (spEncP K) := by
  obtain ⟨t1, pm⟩ := T.pm
  obtain ⟨t2, hb⟩ := T.blk
  obtain ⟨t3, a6⟩ := T.at6
  refine F.ok scEp (fun vs H Q E h => ?_) (fun cdv A outer s H vs Q E hr h => ?_)
  · obtain ⟨i, m, n, p, rfl, _⟩ := h
    rfl
  · obtain ⟨i, m, n, p, rfl, pl, q⟩ := h
    have nd := scEp.nd
    refine ⟨_, (pss_cons (ps_set (i := 4) nd rfl (Or.inl rfl) (pe_lst (pa_cons (pe_glob (v := .int 74) rfl pm ⟨_, rfl⟩) (pa_cons (pv 0) (pa_cons (pv 1) (pa_cons (pe_op op_fdiv (pv 2) pe_int) (pa_cons (pe_op op_mod (pv 2) pe_int) (pa_cons (pe_callB call_lenS (by rfl) M.len PySem.boot_len (pa_cons (pv 3) pa_nil)) pa_nil))))))))
        (pss_cons (ps_setLc (i := 5) (own := [("char", 7)]) (g := (gName 7)) rfl nd rfl rfl (sw_true rfl rfl rfl (by decide +kernel)) (pi_str (pv 3)) (blkOk_by (N := ["index", "many", "number", "text", "start", "codes", "zeros", "char"]) (sc := (defScope sEncP)) (by decide +kernel)) (fun _ _ _ _ _ => (pg_name (i := 7) nd rfl (Or.inl rfl))) (fun _ _ _ _ _ => pts_nil) (fun _ _ _ _ _ => (pe_callB call_ord (by rfl) M.ord (by decide +kernel) (pa_cons (pv 7) pa_nil))))
        (pss_cons (ps_set (i := 6) nd rfl (Or.inl rfl) (pe_op op_rep (pe_lst (pa_cons pe_int pa_nil)) (pe_op op_sub (pe_op op_sub (pe_op op_sub (pe_glob (v := .int 32) rfl hb ⟨_, rfl⟩) (pe_glob (v := .int 6) rfl a6 ⟨_, rfl⟩)) (pe_callB call_lenS (by rfl) M.len PySem.boot_len (pa_cons (pv 3) pa_nil))) pe_int)))
        (pss_one (ps_ret (pe_op op_cat (pe_op op_cat (pe_op op_cat (pv 4) (pv 5)) (pv 6)) (pe_lst (pa_cons (pe_glob (v := .int 74) rfl pm ⟨_, rfl⟩) pa_nil)))))))), ?_⟩
    have pl0 : (ofL p).length ≤ sizeLine := by rw [ofL_len]; exact Nat.le_trans pl (by decide)
    refine ⟨_, rfl, _, rfl, _, rfl, _, _, rfl, rfl, ⟨by decide, by decide⟩, _, rfl, _, _, rfl, rfl, (by show (0 : Int) < 256; decide), _, rfl, _, rfl, pl0, (by show 6 ≤ sizeLine; decide), fun p1 np1 => ?_⟩
    rw [ofL_len]
    have X1 := same_new (o := .lst [V.int 74, .int i, .int m, .int (n / 256), .int (n % 256), .int (p.length : Int)]) np1
    have h1 : upd H p1 (.lst [V.int 74, .int i, .int m, .int (n / 256), .int (n % 256), .int (p.length : Int)]) p1 = some (.lst ([74, i, m, n / 256, n % 256, (p.length : Int)].map V.int)) := upd_same
    generalize upd H p1 (.lst [V.int 74, .int i, .int m, .int (n / 256), .int (n % 256), .int (p.length : Int)]) = H1 at X1 h1
    refine ⟨_, rfl, _, rfl, fun D nD => ?_⟩
    refine lc_it walk_str (fun k H' => Same H1 H' ∧ H' D = some (.lst (((p.take k).map fun (c : Nat) => (c : Int)).map V.int))) ⟨same_new nD, upd_same⟩ (fun _ _ _ _ => trivial) ?_ ?_
    · rintro k x H2 H3 hk ⟨S2, hD⟩ ⟨rfl, c, hc, rfl⟩
      have hc2 : p[k]? = some c := by
        rw [← tl_ofL p]
        exact (Array.getElem?_toList).trans hc
      refine ⟨rfl, _, rfl, _, rfl, rfl, _, hD, ?_, same_upd S2 nD, ?_⟩
      · rw [List.length_map, List.length_map, List.length_take]
        exact small_line (by omega)
      · rw [takeS hc2]
        refine upd_same.trans ?_
        rw [List.map_append (f := fun (c : Nat) => (c : Int)), List.map_append (f := V.int)]
        rfl
    rintro H2 ⟨S2, hD⟩
    have ez : (ofL p).cps.size = p.length := ofL_len _
    rw [ez, List.take_length] at hD
    have pl2 : (32 - 6 - (p.length : Int) - 1).toNat = 25 - p.length := by omega
    refine ⟨(by show 1 ≤ sizeLine; decide), fun p2 np2 => ?_⟩
    refine ⟨_, _, rfl, rfl, _, rfl, _, rfl, pl0, _, _, rfl, rfl, _, _, rfl, rfl, ?_⟩
    rw [ofL_len]
    refine ⟨p2, _, _, rfl, rfl, upd_same, by omega, by omega, ?_, fun p3 np3 => ?_⟩
    · rw [pl2]
      show 1 * _ ≤ sizeLine
      exact Nat.le_trans (m := 25) (by omega) (by decide)
    rw [pl2, rep_flat]
    have Xa := same_new (o := .lst [V.int 0]) np2
    have Xb := same_new (o := .lst ((List.replicate (25 - p.length) (0 : Int)).map V.int)) np3
    have h3 : upd (upd H2 p2 (.lst [V.int 0])) p3 (.lst ((List.replicate (25 - p.length) (0 : Int)).map V.int)) p3 = some (.lst ((List.replicate (25 - p.length) (0 : Int)).map V.int)) := upd_same
    have Xab := S2.trans (Xa.trans Xb)
    have hD3 := (Xa.trans Xb) _ _ hD
    generalize upd (upd H2 p2 (.lst [V.int 0])) p3 (.lst ((List.replicate (25 - p.length) (0 : Int)).map V.int)) = H3 at h3 Xab hD3
    have h13 := Xab _ _ h1
    refine ⟨_, rfl, _, rfl, p1, D, _, _, rfl, rfl, h13, hD3, ?_, fun p4 np4 => ?_⟩
    · rw [List.length_map, List.length_map, List.length_map]
      show 6 + p.length ≤ sizeLine
      exact Nat.le_trans (m := 40) (by omega) (by decide)
    rw [← List.map_append]
    have X4 := same_new (o := .lst (([74, i, m, n / 256, n % 256, (p.length : Int)] ++ p.map fun (c : Nat) => (c : Int)).map V.int)) np4
    have h4 : upd H3 p4 (.lst (([74, i, m, n / 256, n % 256, (p.length : Int)] ++ p.map fun (c : Nat) => (c : Int)).map V.int)) p4 = some (.lst (([74, i, m, n / 256, n % 256, (p.length : Int)] ++ p.map fun (c : Nat) => (c : Int)).map V.int)) := upd_same
    generalize upd H3 p4 (.lst (([74, i, m, n / 256, n % 256, (p.length : Int)] ++ p.map fun (c : Nat) => (c : Int)).map V.int)) = H4 at X4 h4
    refine ⟨_, rfl, p4, p3, _, _, rfl, rfl, h4, X4 _ _ h3, ?_, fun p5 np5 => ?_⟩
    · rw [List.length_map, List.length_map, List.length_append, List.length_map, List.length_replicate]
      show 6 + p.length + (25 - p.length) ≤ sizeLine
      exact Nat.le_trans (m := 40) (by omega) (by decide)
    rw [← List.map_append]
    have X5 := X4.trans (same_new (o := .lst ((([74, i, m, n / 256, n % 256, (p.length : Int)] ++ p.map fun (c : Nat) => (c : Int)) ++ List.replicate (25 - p.length) (0 : Int)).map V.int)) np5)
    have h5 : upd H4 p5 (.lst ((([74, i, m, n / 256, n % 256, (p.length : Int)] ++ p.map fun (c : Nat) => (c : Int)) ++ List.replicate (25 - p.length) (0 : Int)).map V.int)) p5 = some (.lst ((([74, i, m, n / 256, n % 256, (p.length : Int)] ++ p.map fun (c : Nat) => (c : Int)) ++ List.replicate (25 - p.length) (0 : Int)).map V.int)) := upd_same
    generalize upd H4 p5 (.lst ((([74, i, m, n / 256, n % 256, (p.length : Int)] ++ p.map fun (c : Nat) => (c : Int)) ++ List.replicate (25 - p.length) (0 : Int)).map V.int)) = H5 at X5 h5
    refine ⟨(by show 1 ≤ sizeLine; decide), fun p6 np6 => ?_⟩
    have X6 := X5.trans (same_new (o := .lst [V.int 74]) np6)
    refine ⟨p5, p6, _, _, rfl, rfl, same_new np6 _ _ h5, upd_same, ?_, fun a na => ?_⟩
    · rw [List.length_map, List.length_append, List.length_append, List.length_map, List.length_replicate]
      show 6 + p.length + (25 - p.length) + 1 ≤ sizeLine
      exact Nat.le_trans (m := 40) (by omega) (by decide)
    have X := ((X1.trans Xab).trans X6)
    refine q a _ (X.trans (same_new na)) (same_none X na) (upd_same.trans ?_)
    unfold pieceL
    rw [List.map_append (l₂ := [(74 : Int)])]
    rfl
end
end LB

set_option maxRecDepth 100000
set_option maxHeartbeats 8000000
namespace LB
open PySem PySem.Spec PyProof.Rows L2 TL
section
variable {P : Program} {w : World} {K : PySem.W.Frag} {mg : Str → Option Value} {base : Heap} {C fI cc cda : Addr}
/-- the rows of a record, in a new list -/
def RecAt (H H' : Hp) (D : Addr) (n : Int) (cs : List Nat) : Prop := ∃ rs : List Addr, H D = none ∧ H' D = some (.lst (rs.map V.ref)) ∧ rs.length = manyOf cs ∧ ∀ k r, rs[k]? = some r → H r = none ∧ H' r = some (.lst ((rowOf n cs k).map V.int))
def spEncR (K : PySem.W.Frag) (C : Addr) : Sp := fun vs H Q E => ∃ (n : Int) (cs : List Nat), vs = [.int n, .str (ofL cs)] ∧ cs.length ≤ 7000 ∧ (manyOf cs ≤ 255 → ∀ (D : Addr) (H' : Hp), Same H H' → RecAt H H' D n cs → Q (.ref D) H') ∧
  (¬ manyOf cs ≤ 255 → ∀ (d : Addr), H d = none → E (.ref C) (some d) (upd H d (.xd [(("name" : Str), .str "text")])))
theorem scEr : FnScope ["number", "text", "many", "pieces", "index", "piece"] ["number", "text"] (defScope sEncR) := ⟨rfl, rfl, rfl, by decide +kernel, rfl, by decide +kernel, by decide +kernel⟩
theorem cut_part2 {cs : List Nat} {k : Nat} : cutS (ofL cs) (some (24 * (0 + (k : Int)))) (some (24 * ((0 + (k : Int)) + 1))) = ofL (partOf cs k) := by
  rw [← cut_part]
  rw [show (24 : Int) * ((0 + (k : Int)) + 1) = 24 * (0 + (k : Int)) + 24 by omega]
theorem ok_encR {f fP : Addr} {fd fdP : FuncData} (F : Fun K "encode_record" "encode_record" sEncR f fd) (O : Oor K mg P "OutOfRange" C fI cc cda) (M : NamesX mg) (T : TopX mg) (FP : Fun K "encode_piece" "encode_piece" sEncP fP fdP) (mP : mg "encode_piece" = some (.ref fP)) (bP : Binds K fdP ["index", "many", "number", "text"] []) :
    FnOk P w K mg base (L2.CX P w) 3 f fd ["number", "text"] (spEncR K C) := by
  have GP : FnOk P w K mg base CX0 1 fP fdP ["index", "many", "number", "text"] (spEncP K) := ok_encP FP M T
  have kP := FP.kp
  obtain ⟨t1, pc⟩ := T.pc
  obtain ⟨t2, pmo⟩ := T.most
  refine F.okX scEr (fun vs H Q E h => ?_) (fun cdv A outer s H vs Q E hr h => ?_)
  · obtain ⟨n, cs, rfl, _⟩ := h
    rfl
  · obtain ⟨n, cs, rfl, cl, q1, q2⟩ := h
    have nd := scEr.nd
    refine ⟨_, (pss_cons (ps_set (i := 2) nd rfl (Or.inr rfl) (pe_callB (call_max2 rfl) (by rfl) M.max (by decide +kernel) (pa_cons pe_int (pa_cons (pe_op op_fdiv (pe_op op_sub (pe_op op_add (pe_callB call_lenS (by rfl) M.len PySem.boot_len (pa_cons (pv 1) pa_nil)) (pe_glob (v := .int 24) rfl pc ⟨_, rfl⟩)) pe_int) (pe_glob (v := .int 24) rfl pc ⟨_, rfl⟩)) pa_nil))))
        (pss_cons (ps_if (pt_cmpR op_gt (pv 2) (pe_glob (v := .int 255) rfl pmo ⟨_, rfl⟩) (nomark _)) (pss_one (ps_raiseErr (W := fun cls d _ H' => E cls d H') rfl O hr (takes_of rfl rfl rfl rfl) (pa_cons pe_str pa_nil) rfl (by decide))) pss_nil)
        (pss_cons (ps_setLc (i := 3) (own := [("index", 4)]) (g := (gName 4)) rfl nd rfl rfl (sw_true rfl rfl rfl (by decide +kernel)) (pi_range1 (by rfl) M.range (pa_cons (pv 2) pa_nil)) (blkOk_by (N := ["number", "text", "many", "pieces", "index", "piece"]) (sc := (defScope sEncR)) (by decide +kernel)) (fun _ _ _ _ _ => (pg_name (i := 4) nd rfl (Or.inl rfl))) (fun _ _ _ _ _ => pts_nil) (fun _ _ _ _ _ => (pe_slice sl_str (pv 1) (po_some (pe_op op_mul (pe_glob (v := .int 24) rfl pc ⟨_, rfl⟩) (pv 4))) (po_some (pe_op op_mul (pe_glob (v := .int 24) rfl pc ⟨_, rfl⟩) (pe_op op_add (pv 4) pe_int))))))
        (pss_one (ps_ret (pe_lc (own := [("index", 4), ("piece", 5)]) (g := (gTup K 2 (gCons (gName 4) (gCons (gName 5) gNil)))) rfl nd (pi_enum (by rfl) M.en (pa_cons (pv 3) pa_nil)) (blkOk_by (N := ["number", "text", "many", "pieces", "index", "piece"]) (sc := (defScope sEncR)) (by decide +kernel)) (fun _ _ _ _ _ => (pg_tupK (K := K) rfl rfl (pgs_cons (pg_name (i := 4) nd rfl (Or.inl rfl)) (pgs_cons (pg_name (i := 5) nd rfl (Or.inl rfl)) pgs_nil)))) (fun _ _ _ _ _ => pts_nil) (fun _ _ _ _ _ => (pe_call GP (hr.mono (by decide)) rfl mP kP bP .nil pass0 (pa_cons (pv 4) (pa_cons (pv 2) (pa_cons (pv 0) (pa_cons (pv 5) pa_nil)))))))))))), ?_⟩
    have tl0 : (ofL cs).length ≤ sizeLine := by rw [ofL_len]; exact Nat.le_trans cl (by decide)
    have em : (if ((((ofL cs).length : Int) + 24 - 1) / 24) > 1 then ((((ofL cs).length : Int) + 24 - 1) / 24) else (1 : Int)) = (manyOf cs : Int) := by
      rw [ofL_len]
      unfold manyOf
      split <;> omega
    refine ⟨_, rfl, _, rfl, tl0, _, _, rfl, rfl, _, _, rfl, rfl, _, _, rfl, rfl, ⟨by decide, by decide⟩, _, _, rfl, ?_⟩
    rw [em]
    refine ⟨_, rfl, _, _, rfl, rfl, _, rfl, ite2 (fun c => ?_) (fun c => ?_)⟩
    · have c := of_decide_eq_true c
      exact ⟨"text", rfl, by decide, fun d hd => q2 (by omega) d hd⟩
    have c : ¬ (255 : Int) < (manyOf cs : Int) := fun z => c (decide_eq_true z)
    have q1 := q1 (by omega)
    clear q2
    refine ⟨_, rfl, _, rfl, by omega, by omega, fun D nD => ?_⟩
    refine lc_range (n := ((manyOf cs : Nat) : Int).toNat) (fun k H' => Same H H' ∧ H' D = some (.lst ((List.range k).map fun i => V.str (ofL (partOf cs i))))) ⟨same_new nD, upd_same⟩ ?_ ?_
    · rintro k H1 hk ⟨S1, hD⟩
      refine ⟨rfl, _, rfl, _, rfl, _, _, rfl, rfl, .inl ⟨by decide, by decide⟩, _, rfl, _, rfl, _, _, rfl, rfl, _, _, rfl, rfl, .inl ⟨by decide, by decide⟩, _, rfl, _, rfl, tl0, ?_⟩
      rw [cut_part2]
      refine ⟨_, hD, ?_, same_upd S1 nD, ?_⟩
      · rw [List.length_map, List.length_range]
        exact small_line (by omega)
      · rw [List.range_succ, List.map_append]
        exact upd_same
    rintro H1 ⟨S1, hD⟩
    rw [Int.toNat_natCast] at hD
    refine ⟨_, rfl, D, _, rfl, SqL.of hD, fun D2 nD2 => ?_⟩
    refine lc_it walk_enum (fun k H' => Same H1 H' ∧ ∃ rs : List Addr, H' D2 = some (.lst (rs.map V.ref)) ∧ rs.length = k ∧ ∀ i r, rs[i]? = some r → H r = none ∧ r ≠ D2 ∧ H' r = some (.lst ((rowOf n cs i).map V.int)))
      ⟨same_new nD2, [], upd_same, rfl, fun i r h => by simp at h⟩ (fun i H' _ h => SqL.of (h.1 _ _ hD)) ?_ ?_
    · rintro k x H2 H3 hk ⟨S2, rs, hD2, rl, hrs⟩ ⟨T0, x0, y0, rfl, nT, rfl, e1, e2⟩
      rw [List.length_map, List.length_range] at hk
      cases e1
      have e2 : ((List.range (manyOf cs)).map fun i => V.str (ofL (partOf cs i)))[k]? = some y0 := e2
      rw [List.getElem?_map, List.getElem?_range hk] at e2
      cases e2
      have S3 := same_new (o := .tup [V.int (k : Nat), .str (ofL (partOf cs k))]) nT
      have S13 := S2.trans S3
      refine ⟨T0, _, rfl, SqT.of upd_same, rfl, _, _, rfl, _, _, rfl, rfl, ?_⟩
      have pl := part_len cs k
      refine ⟨rfl, _, rfl, _, rfl, _, rfl, _, rfl, (k : Nat), manyOf cs, n, partOf cs k, rfl, pl, fun r H4 S4 nr hr4 => ?_⟩
      have S14 := S13.trans S4
      have hD4 := (S3.trans S4) _ _ hD2
      have rD : r ≠ D2 := fun e => by rw [e, S3 _ _ hD2] at nr; cases nr
      refine ⟨_, hD4, ?_, same_upd S14 nD2, rs ++ [r], upd_same.trans (by rw [List.map_append]; rfl), by rw [List.length_append, rl]; rfl, fun i r' hr' => ?_⟩
      · rw [List.length_map]
        exact small_line (by omega)
      · by_cases hi : i < rs.length
        · rw [List.getElem?_append_left hi] at hr'
          obtain ⟨h1, h2, h3⟩ := hrs i r' hr'
          refine ⟨h1, h2, ?_⟩
          rw [upd_ne h2]
          exact (S3.trans S4) _ _ h3
        · have hi2 : i = rs.length := by
            have := (List.getElem?_eq_some_iff.mp hr').1
            rw [List.length_append] at this
            have : i < rs.length + 1 := this
            omega
          rw [hi2, List.getElem?_append_right (Nat.le_refl _), Nat.sub_self] at hr'
          cases hr'
          refine ⟨same_none (S1.trans S13) nr, rD, ?_⟩
          rw [upd_ne rD, hi2, rl]
          exact hr4
    · rintro H2 ⟨S2, rs, hD2, rl, hrs⟩
      rw [List.length_map, List.length_range] at rl
      exact q1 D2 H2 (S1.trans S2) ⟨rs, same_none S1 nD2, hD2, rl, fun k r h => ⟨(hrs k r h).1, (hrs k r h).2.2⟩⟩
end
end LB

set_option maxRecDepth 100000
set_option maxHeartbeats 8000000
namespace LB
open PySem PySem.Spec PyProof.Rows L2 TL
theorem foldl_app (c : Nat) : ∀ (n : Nat) (a : Array Nat), ((List.replicate n #[c]).foldl (· ++ ·) a).toList = a.toList ++ List.replicate n c
  | 0, a => by simp
  | n + 1, a => by
    rw [List.replicate_succ, List.foldl_cons, foldl_app c n]
    simp [List.replicate_succ]
theorem mul_one (c : Nat) (n : Int) : Txt.mul (ofL [c]) n = ofL (List.replicate n.toNat c) := by
  refine ext_tl ?_
  rw [tl_ofL]
  unfold Txt.mul
  by_cases h : n < 1
  · rw [if_pos h, show n.toNat = 0 by omega]
    rfl
  · rw [if_neg h]
    by_cases h2 : n = 1
    · subst h2
      rfl
    · have e : (n == 1 || (ofL [c]).length == 0) = false := by
        rw [ofL_len]
        simp [h2]
      rw [if_neg (by rw [e]; decide)]
      show ((List.replicate n.toNat #[c]).foldl (· ++ ·) #[]).toList = _
      rw [foldl_app c n.toNat #[]]
      rfl
theorem mul_ok (c : Nat) (n : Int) (h0 : 0 ≤ n) (h : n ≤ 10000) : MulOk (ofL [c]) n := by
  refine ⟨?_, fun h1 _ => ?_, fun _ _ => ?_⟩
  · rw [decide_eq_false (by omega), decide_eq_false (by omega)]
    rfl
  · rw [ofL_len]
    have h2 : (2 : Int) ^ 63 - 1 = 9223372036854775807 := by decide
    rw [h2]
    have h3 : n ≤ 9223372036854775807 := by omega
    have h4 : (9223372036854775807 : Int) / n ≥ 1 := by
      apply Int.le_ediv_of_mul_le (by omega)
      omega
    show ¬ ((1 : Int) > _)
    omega
  · rw [ofL_len]
    have h2 : 1 * n.toNat ≤ sizeLine := Nat.le_trans (m := 10000) (by omega) (by decide)
    exact decide_eq_false (Nat.not_lt.mpr h2)
section
variable {P : Program} {w : World} {K : PySem.W.Frag} {mg : Str → Option Value} {base : Heap} {C fI cc cda : Addr}
def spEncoded (K : PySem.W.Frag) : Sp := fun vs H Q _ => ∃ (n : Int) (cs : List Nat), vs = [.int n, .str (ofL cs)] ∧ cs.length ≤ 7000 ∧ (manyOf cs ≤ 255 → ∀ (D : Addr) (H' : Hp), Same H H' → RecAt H H' D n cs → Q (.ref D) H') ∧
  (¬ manyOf cs ≤ 255 → ∀ (a : Addr) (H' : Hp), Same H H' → H' a = some (.tup [.str "refused", .str "text"]) → Q (.ref a) H')
theorem scEd : FnScope ["number", "text", "e"] ["number", "text"] (defScope sEncoded) := ⟨rfl, rfl, rfl, by decide +kernel, rfl, by decide +kernel, by decide +kernel⟩
theorem ok_encoded {f fE : Addr} {fd fdE : FuncData} (F : Fun K "_law_encoded" "_law_encoded" sEncoded f fd) (O : Oor K mg P "OutOfRange" C fI cc cda) (exC : PySem.W.exmOne K (.ref C) (.ref C) = some true)
    (GE : FnOk P w K mg base (L2.CX P w) 3 fE fdE ["number", "text"] (spEncR K C)) (mE : mg "encode_record" = some (.ref fE)) (kE : PySem.W.keepIn K (.ref fE) = true) (bE : Binds K fdE ["number", "text"] []) :
    FnOk P w K mg base CX0 4 f fd ["number", "text"] (spEncoded K) := by
  refine F.ok scEd (fun vs H Q E h => ?_) (fun cdv A outer s H vs Q E hr h => ?_)
  · obtain ⟨n, cs, rfl, _⟩ := h
    rfl
  · obtain ⟨n, cs, rfl, cl, q1, q2⟩ := h
    have nd := scEd.nd
    refine ⟨_, pss_one (ps_try_as (i := 2) (Wout := fun _ _ _ _ => False) rfl rfl nd rfl rfl ⟨rfl, by decide, Or.inl O.gC⟩ takes0
        (fun W pn xe tk _ => pss_one (ps_ret (pe_callS (E := WE W) GE (hr.mono (by decide)) rfl mE kE bE (fun σ => passAt tk σ) (pa_cons (pv 0) (pa_cons (pv 1) pa_nil)))))
        (fun a oe cls d pn hz hf => pss_one (ps_ret (pe_tup (pa_cons pe_str (pa_cons (pe_errName O hz hf (pv 2)) pa_nil)))))), ?_⟩
    refine ⟨_, rfl, _, rfl, n, cs, rfl, cl, q1, fun bad dd hd => ?_⟩
    refine ⟨true, exC, fun _ a _ => ?_, fun y => Bool.noConfusion y⟩
    refine ⟨_, rfl, rfl, rfl, dd, _, rfl, upd_same, (by show 2 ≤ sizeLine; decide), fun t ht => ?_⟩
    exact q2 bad t _ ((same_new hd).trans (same_new ht)) upd_same
end
end LB

set_option maxRecDepth 100000
set_option maxHeartbeats 8000000
namespace LB
open PySem PySem.Spec PyProof.Rows L2 TL
def spLaw (K : PySem.W.Frag) : Sp := fun vs H Q _ => ∃ (a : Addr) (ns : List Int), vs = [.ref a] ∧ SqL K H a (ns.map V.int) ∧ ∀ H', Q (.bl true) H'
structure Defs (K : PySem.W.Frag) (mg : Str → Option Value) (base : Heap) (P : Program) (w : World) : Prop where
  D : ∃ f fd, FnOk P w K mg base CX0 1 f fd ["box", "many"] (spDraw K) ∧ mg "_law_draw" = some (.ref f) ∧ PySem.W.keepIn K (.ref f) = true ∧ Binds K fd ["box", "many"] []
  G : ∃ f fd, FnOk P w K mg base CX0 2 f fd ["script", "first", "last"] (spDigits K) ∧ mg "_law_digits" = some (.ref f) ∧ PySem.W.keepIn K (.ref f) = true ∧ Binds K fd ["script", "first", "last"] []
  Pi : ∃ f fd, FnOk P w K mg base CX0 1 f fd ["number", "text"] (spPieces K) ∧ mg "_law_pieces" = some (.ref f) ∧ PySem.W.keepIn K (.ref f) = true ∧ Binds K fd ["number", "text"] []
  S : ∃ f fd, FnOk P w K mg base CX0 2 f fd ["box", "many"] (spStored K) ∧ mg "_law_stored_text" = some (.ref f) ∧ PySem.W.keepIn K (.ref f) = true ∧ Binds K fd ["box", "many"] []
  E : ∃ f fd, FnOk P w K mg base CX0 4 f fd ["number", "text"] (spEncoded K) ∧ mg "_law_encoded" = some (.ref f) ∧ PySem.W.keepIn K (.ref f) = true ∧ Binds K fd ["number", "text"] []
  H_ : ∃ f fd, FnOk P w K mg base CX0 1 f fd ["grace"] (spEncH K) ∧ mg "encode_head" = some (.ref f) ∧ PySem.W.keepIn K (.ref f) = true ∧ Binds K fd ["grace"] []
  R : ∃ f fd, FnOk P w K mg base CX0 2 f fd ["block"] (spDecP K) ∧ mg "decode_piece" = some (.ref f) ∧ PySem.W.keepIn K (.ref f) = true ∧ Binds K fd ["block"] []
  T : ∃ f fd, FnOk P w K mg base CX0 2 f fd ["block"] (spDecH K) ∧ mg "decode_head" = some (.ref f) ∧ PySem.W.keepIn K (.ref f) = true ∧ Binds K fd ["block"] []
  names : NamesX mg
  tops : TopX mg
def recD (n : Int) (cs : List Nat) : PyData := .list ((List.range (manyOf cs)).map fun k => .list ((rowOf n cs k).map PyData.int))
theorem dp_rows {K : PySem.W.Frag} {H : Hp} {n : Int} {cs : List Nat} : ∀ (rs : List Addr) (j : Nat), (∀ k r, rs[k]? = some r → H r = some (.lst ((rowOf n cs (j + k)).map V.int))) → DpAll K H (rs.map V.ref) ((List.range' j rs.length).map fun k => .list ((rowOf n cs k).map PyData.int))
  | [], _, _ => .nil
  | r :: t, j, h => by
    rw [List.length_cons, List.range'_succ, List.map_cons, List.map_cons]
    refine .cons (.lst (SqL.of (h 0 r rfl)) dpI) (dp_rows t (j + 1) fun k r' hk => ?_)
    have := h (k + 1) r' hk
    rwa [show j + 1 + k = j + (k + 1) by omega]
theorem dp_rec {K : PySem.W.Frag} {H H' : Hp} {D : Addr} {n : Int} {cs : List Nat} (h : RecAt H H' D n cs) : Dp K H' (.ref D) (recD n cs) := by
  obtain ⟨rs, _, hD, rl, hr⟩ := h
  have := dp_rows (K := K) (H := H') (n := n) (cs := cs) rs 0 fun k r hk => by rw [Nat.zero_add]; exact (hr k r hk).2
  rw [rl, ← List.range_eq_range'] at this
  exact .lst (SqL.of hD) this
theorem atI_k {xs : List V} {k : Nat} {v : V} (h : xs[k]? = some v) : atI xs (0 + (k : Int)) = some v := by
  rw [Int.zero_add]
  exact atI_nat h
theorem tyxTup {K : PySem.W.Frag} {H : Hp} {a : Addr} {xs : List V} (h : SqT K H a xs) : TyX K H (.ref a) (.type "tuple") := by
  rcases h with (h | ⟨o, h⟩) | ⟨o, its, n, h, hc, _⟩
  · exact .base (.tup h)
  · exact .fTuple h
  · exact .kTuple h hc
theorem lay_ints : ∀ ns : List Int, PyData.canLayAll0 (ns.map PyData.int) = true := PySem.W.ke_canLayAll0
theorem shaped_rec (n : Int) (cs : List Nat) : SeqAt.shaped (recD n cs) = true := by
  have h1 : ∀ l : List Nat, PyData.canLayAll0 (l.map fun k => PyData.list ((rowOf n cs k).map PyData.int)) = true := by
    intro l
    induction l with
    | nil => rfl
    | cons k r ih =>
      rw [List.map_cons]
      show (PyData.canLayAll0 ((rowOf n cs k).map PyData.int) && _) = true
      rw [lay_ints, ih]
      rfl
  have h2 : ∀ l : List Nat, PyData.depthAll (l.map fun k => PyData.list ((rowOf n cs k).map PyData.int)) ≤ 1 := by
    intro l
    induction l with
    | nil => exact Nat.zero_le _
    | cons k r ih =>
      rw [List.map_cons]
      show max (PyData.depthAll ((rowOf n cs k).map PyData.int) + 1) _ ≤ 1
      rw [PySem.W.ke_depthAll]
      omega
  show (PyData.canLayAll0 _ && decide (PyData.depthAll _ + 1 ≤ 64)) = true
  rw [h1, Bool.true_and]
  exact decide_eq_true (Nat.le_trans (Nat.succ_le_succ (h2 _)) (by decide))
theorem piece_row {n : Int} {cs : List Nat} {k : Nat} (hn : 0 ≤ n ∧ n < 65536) (hs : Sgs cs) (hk : k < manyOf cs) : pieceD (rowOf n cs k) = .tuple [.int k, .int (manyOf cs), .int n, .str (ofL (partOf cs k))] := by
  obtain ⟨g0, g1, g2, g3, g4, g5, g31⟩ := row_get (n := n) (cs := cs) (k := k)
  unfold pieceD
  rw [if_pos (row_piece hs hk), row_text, g1, g2, g3, g4, show 256 * (n / 256) + n % 256 = n by omega]
theorem head_row {g : Int} (h : 0 ≤ g ∧ g ≤ 1000) : Blk (headOf (g / 256) (g % 256)) ∧ headD (headOf (g / 256) (g % 256)) = .int g := by
  refine ⟨head_blk (by omega) (by omega), ?_⟩
  have e1 : gI (headOf (g / 256) (g % 256)) 1 = g / 256 := rfl
  have e2 : gI (headOf (g / 256) (g % 256)) 2 = g % 256 := rfl
  have e3 : isHead (headOf (g / 256) (g % 256)) = true := by
    unfold isHead
    rw [e1, e2, show 256 * (g / 256) + g % 256 = g by omega, decide_eq_false (show ¬ g > 1000 by omega)]
    rfl
  unfold headD
  rw [if_pos e3, e1, e2, show 256 * (g / 256) + g % 256 = g by omega]
section
variable {P : Program} {w : World} {K : PySem.W.Frag} {mg : Str → Option Value} {base : Heap}
theorem scLaw : FnScope ["script", "box", "turn", "number", "many", "text", "due", "blocks", "k", "told", "grace", "head", "sign"] ["script"] (defScope sLaw) := ⟨rfl, rfl, rfl, by decide +kernel, rfl, by decide +kernel, by decide +kernel⟩
theorem ok_law {f : Addr} {fd : FuncData} (F : Fun K "law" "law" sLaw f fd) (T : Defs K mg base P w) : FnG P w K mg base CX0 5 f fd ["script"] (spLaw K) := by
  obtain ⟨_, _, GD, mD, kD, bD⟩ := T.D
  obtain ⟨_, _, GG, mG, kG, bG⟩ := T.G
  obtain ⟨_, _, GP, mP, kP, bP⟩ := T.Pi
  obtain ⟨_, _, GS, mS, kS, bS⟩ := T.S
  obtain ⟨_, _, GE, mE, kE, bE⟩ := T.E
  obtain ⟨_, _, GH, mH, kH, bH⟩ := T.H_
  obtain ⟨_, _, GR, mR, kR, bR⟩ := T.R
  obtain ⟨_, _, GT, mT, kT, bT⟩ := T.T
  have M := T.names
  obtain ⟨t1, pc⟩ := T.tops.pc
  obtain ⟨t2, pmo⟩ := T.tops.most
  refine FnG.of_fun F scLaw (fun vs H Q E h => ?_) (fun cdv A outer s H vs Q E gf hr h => ?_)
  · obtain ⟨a, ns, rfl, _⟩ := h
    rfl
  · obtain ⟨a, ns, rfl, hS, q⟩ := h
    have nd := scLaw.nd
    refine ⟨_, (pss_cons (ps_set (i := 1) nd rfl (Or.inl rfl) (pe_lst (pa_cons (pe_call GG (hr.mono (by decide)) rfl mG kG bG .nil pass0 (pa_cons (pv 0) (pa_cons pe_int (pa_cons pe_int pa_nil)))) (pa_cons pe_int pa_nil))))
        (pss_cons (ps_for PassesOwn.never rfl (pi_range1 (by rfl) M.range (pa_cons pe_int pa_nil)) (pg_name (i := 2) nd rfl (Or.inl rfl)) (pss_cons (ps_set (i := 3) nd rfl (Or.inl rfl) (pe_op op_mod (pe_callTy call_int1 (by rfl) M.int (by decide +kernel) (pa_cons (pe_op op_add (pe_op op_mul (pe_call GD (hr.mono (by decide)) rfl mD kD bD .nil pass0 (pa_cons (pv 1) (pa_cons pe_int pa_nil))) pe_int) (pe_call GD (hr.mono (by decide)) rfl mD kD bD .nil pass0 (pa_cons (pv 1) (pa_cons pe_int pa_nil)))) pa_nil)) pe_int))
        (pss_cons (ps_set (i := 4) nd rfl (Or.inl rfl) (pe_ix ix_list (pe_lst (pa_cons (pe_op op_mul pe_int (pe_call GD (hr.mono (by decide)) rfl mD kD bD .nil pass0 (pa_cons (pv 1) (pa_cons pe_int pa_nil)))) (pa_cons (pe_call GD (hr.mono (by decide)) rfl mD kD bD .nil pass0 (pa_cons (pv 1) (pa_cons pe_int pa_nil))) pa_nil))) (pe_call GD (hr.mono (by decide)) rfl mD kD bD .nil pass0 (pa_cons (pv 1) (pa_cons pe_int pa_nil))) (fun _ _ => rfl)))
        (pss_cons (ps_set (i := 5) nd rfl (Or.inl rfl) (pe_call GS (hr.mono (by decide)) rfl mS kS bS .nil pass0 (pa_cons (pv 1) (pa_cons (pv 4) pa_nil))))
        (pss_cons (ps_set (i := 6) nd rfl (Or.inl rfl) (pe_call GP (hr.mono (by decide)) rfl mP kP bP .nil pass0 (pa_cons (pv 3) (pa_cons (pv 5) pa_nil))))
        (pss_cons (ps_set (i := 7) nd rfl (Or.inl rfl) (pe_call GE (hr.mono (by decide)) rfl mE kE bE .nil pass0 (pa_cons (pv 3) (pa_cons (pv 5) pa_nil))))
        (pss_cons (ps_if (PW.pt (pw_or (pt_not (pt_val (pe_callB call_isi (by rfl) M.isi PyProof.Rows.boot_isinstance (pa_cons (pv 7) (pa_cons (pe_bltn (v := .ty "list") (by rfl) M.list (by decide +kernel) rfl) pa_nil))))) (pw_or1 (pt_cmpR (op_neD hr.units) (pv 7) (pv 6) (nomark _))))) (pss_one (ps_ret pe_bl)) pss_nil)
        (pss_cons (ps_for PassesOwn.never rfl (pi_range1 (by rfl) M.range (pa_cons (pe_callB call_len_seq (by rfl) M.len PySem.boot_len (pa_cons (pv 6) pa_nil)) pa_nil)) (pg_name (i := 8) nd rfl (Or.inl rfl)) (pss_cons (ps_set (i := 9) nd rfl (Or.inl rfl) (pe_call GR (hr.mono (by decide)) rfl mR kR bR .nil pass0 (pa_cons (pe_ix ix_list (pv 7) (pv 8) (fun _ _ => rfl)) pa_nil)))
        (pss_one (ps_if (PW.pt (pw_or (pt_not (pt_val (pe_callB call_isi (by rfl) M.isi PyProof.Rows.boot_isinstance (pa_cons (pv 9) (pa_cons (pe_bltn (v := .ty "tuple") (by rfl) M.tuple (by decide +kernel) rfl) pa_nil))))) (pw_or1 (pt_cmpR (op_neD hr.units) (pv 9) (pe_tup (pa_cons (pv 8) (pa_cons (pe_callB call_len_seq (by rfl) M.len PySem.boot_len (pa_cons (pv 6) pa_nil)) (pa_cons (pv 3) (pa_cons (pe_slice sl_str (pv 5) (po_some (pe_op op_mul pe_int (pv 8))) (po_some (pe_op op_add (pe_op op_mul pe_int (pv 8)) pe_int))) pa_nil))))) (nomark _))))) (pss_one (ps_ret pe_bl)) pss_nil))))
        (pss_cons (ps_set (i := 10) nd rfl (Or.inl rfl) (pe_ix ix_list (pe_lst (pa_cons pe_int (pa_cons pe_int (pa_cons (pe_call GD (hr.mono (by decide)) rfl mD kD bD .nil pass0 (pa_cons (pv 1) (pa_cons pe_int pa_nil))) pa_nil)))) (pe_call GD (hr.mono (by decide)) rfl mD kD bD .nil pass0 (pa_cons (pv 1) (pa_cons pe_int pa_nil))) (fun _ _ => rfl)))
        (pss_cons (ps_set (i := 11) nd rfl (Or.inl rfl) (pe_call GH (hr.mono (by decide)) rfl mH kH bH .nil pass0 (pa_cons (pv 10) pa_nil)))
        (pss_one (ps_if (PW.pt (pw_or (pt_cmpR (op_neD hr.units) (pv 11) (pe_op op_cat (pe_op op_cat (pe_lst (pa_cons pe_int (pa_cons (pe_op op_fdiv (pv 10) pe_int) (pa_cons (pe_op op_mod (pe_callTy call_int1 (by rfl) M.int (by decide +kernel) (pa_cons (pv 10) pa_nil)) pe_int) pa_nil)))) (pe_op op_rep (pe_lst (pa_cons pe_int pa_nil)) pe_int)) (pe_lst (pa_cons pe_int pa_nil))) (nomark _)) (pw_or1 (pt_cmpR (op_neD hr.units) (pe_call GT (hr.mono (by decide)) rfl mT kT bT .nil pass0 (pa_cons (pv 11) pa_nil)) (pv 10) (nomark _))))) (pss_one (ps_ret pe_bl)) pss_nil))))))))))))
        (pss_cons (ps_set (i := 12) nd rfl (Or.inl rfl) (pe_call GS (hr.mono (by decide)) rfl mS kS bS .nil pass0 (pa_cons (pv 1) (pa_cons pe_int pa_nil))))
        (pss_cons (ps_if (pt_cmpR (op_neD hr.units) (pe_call GE (hr.mono (by decide)) rfl mE kE bE .nil pass0 (pa_cons pe_int (pa_cons (pe_op op_mulS (pv 12) (pe_op op_add pe_int (pe_call GD (hr.mono (by decide)) rfl mD kD bD .nil pass0 (pa_cons (pv 1) (pa_cons pe_int pa_nil))))) pa_nil))) (pe_tup (pa_cons pe_str (pa_cons pe_str pa_nil))) (nomark _)) (pss_one (ps_ret pe_bl)) pss_nil)
        (pss_one (ps_ret (pe_and (pe_cmpR op_eq (pe_callB call_len_seq (by rfl) M.len PySem.boot_len (pa_cons (pe_call GE (hr.mono (by decide)) rfl mE kE bE .nil pass0 (pa_cons pe_int (pa_cons (pe_op op_mulS (pv 12) pe_int) pa_nil))) pa_nil)) pe_int (nomark _)) (pe_one (pe_cmpR (op_eqD hr.units) (pe_tup (pa_cons (pe_glob (v := .int 24) rfl pc ⟨_, rfl⟩) (pa_cons (pe_glob (v := .int 255) rfl pmo ⟨_, rfl⟩) pa_nil))) (pe_tup (pa_cons pe_int (pa_cons pe_int pa_nil))) (nomark _)))))))))), ?_⟩
    refine ⟨_, rfl, a, ns, 0, 63, rfl, hS, by decide, by decide, by decide, fun ds H1 l s1 nl hl hd hlen => ⟨(by show 2 ≤ sizeLine; decide), fun b nb => ?_⟩⟩
    have B0 : Box (upd H1 b (.lst [.ref l, .int 0])) b := ⟨l, ds, 0, upd_same, by rw [upd_ne (ne_of_none hl nb)]; exact hl, (ne_of_none hl nb).symm, by decide, hlen⟩
    refine ⟨6, rfl, by decide, by decide, for_range (n := 6) (fun m σ H' => ∃ v2 v3 v4 v5 v6 v7 v8 v9 v10 v11 : Option V, σ = [some (.ref a), some (.ref b), v2, v3, v4, v5, v6, v7, v8, v9, v10, v11, none] ∧ Box H' b)
      ⟨none, none, none, none, none, none, none, none, none, none, rfl, B0⟩ ?_ ?_⟩
    · rintro m σ H0 hm ⟨v2, v3, v4, v5, v6, v7, v8, v9, v10, v11, rfl, B0⟩
      refine ⟨_, rfl, b, 66, rfl, B0, by decide, fun r1 H2 r10 r11 B2 U2 => ⟨_, _, rfl, rfl, .inr ⟨by decide, by decide⟩, _, rfl, b, 1000, rfl, B2, by decide, fun r2 H3 r20 r21 B3 U3 => ⟨_, _, rfl, rfl, .inl ⟨_, rfl, _, _, rfl, rfl, (by show (0 : Int) < 65536; decide), ?_⟩⟩⟩⟩
      have n0 : 0 ≤ (r1 * 1000 + r2) % 65536 := Int.emod_nonneg _ (by decide)
      have n1 : (r1 * 1000 + r2) % 65536 < 65536 := Int.emod_lt_of_pos _ (by decide)
      -- how many signs
      refine ⟨_, rfl, b, 5, rfl, B3, by decide, fun r3 H4 r30 r31 B4 U4 => ⟨_, _, rfl, rfl, .inl ⟨by decide, by decide⟩, _, rfl, b, 101, rfl, B4, by decide, fun r4 H5 r40 r41 B5 U5 => ⟨(by show 2 ≤ sizeLine; decide), fun l1 nl1 => ?_⟩⟩⟩
      refine ⟨_, rfl, b, 2, rfl, B5.new nl1, by decide, fun r5 H6 r50 r51 B6 U6 => ?_⟩
      have hl1 := B5.keepL nl1 U6
      obtain ⟨sz, esz, sz0, sz1⟩ : ∃ sz : Int, atI [V.int (24 * r3), .int r4] r5 = some (.int sz) ∧ 0 ≤ sz ∧ sz ≤ 100 := by
        have c : r5 = 0 ∨ r5 = 1 := by omega
        rcases c with rfl | rfl
        · exact ⟨24 * r3, rfl, by omega, by omega⟩
        · exact ⟨r4, rfl, by omega, by omega⟩
      refine ⟨l1, _, _, _, rfl, rfl, SqL.of hl1, esz, _, rfl, _, rfl, b, sz, rfl, B6, sz0, by omega, fun cs H7 cl sg B7 U7 => ?_⟩
      have cl2 : cs.length ≤ 200 := by omega
      have ms : manyOf cs ≤ 255 := by unfold manyOf; omega
      refine ⟨_, rfl, _, rfl, _, cs, rfl, n0, n1, cl2, fun D rs H8 S8 nD hD rl hrs => ?_⟩
      refine ⟨_, rfl, _, rfl, _, cs, rfl, by omega, fun _ D2 H9 S9 rec2 => ?_, fun bad => absurd ms bad⟩
      have rec1 : RecAt H7 H8 D ((r1 * 1000 + r2) % 65536) cs := ⟨rs, nD, hD, rl, hrs⟩
      obtain ⟨rs2, nD2, hD2, rl2, hrs2⟩ := id rec2
      refine ⟨_, rfl, .ref D2, .ty "list", _, _, _, rfl, .ty _, .base (.lst hD2), (kit_ty (by decide +kernel) : PySem.W.kitOne K (.type "list") (.type "list") = some true), ?_⟩
      have hD9 := S9 _ _ hD
      refine ⟨_, rfl, iteF ⟨_, rfl, _, rfl, _, _, dp_rec rec2, dp_same S9 (dp_rec rec1), shaped_rec _ _, shaped_rec _ _, ?_⟩⟩
      rw [eqv_self (shaped_rec _ _)]
      refine ⟨_, rfl, iteF ?_⟩
      have B9 := (B7.same S8).same S9
      refine ⟨_, rfl, D, _, rfl, .inl (SqL.of hD9), ?_⟩
      rw [List.length_map, rl]
      refine ⟨_, rfl, by omega, by omega, ?_⟩
      refine for_range (n := ((manyOf cs : Nat) : Int).toNat) (fun k σ H' => ∃ v8 v9 : Option V, σ = [some (.ref a), some (.ref b), some (.int (0 + (m : Int))), some (.int ((r1 * 1000 + r2) % 65536)), some (.int sz), some (.str (ofL cs)), some (.ref D), some (.ref D2), v8, v9, v10, v11, none] ∧ Same H9 H')
        ⟨_, _, rfl, Same.refl _⟩ ?_ ?_
      · rintro k σ H10 hk ⟨v8, v9, rfl, S10⟩
        rw [Int.toNat_natCast] at hk
        have hk2 : k < rs2.length := by omega
        have hr' := List.getElem?_eq_getElem hk2
        generalize rs2[k] = r at hr'
        obtain ⟨nr, hr9⟩ := hrs2 k r hr'
        have hb := row_blk (n := (r1 * 1000 + r2) % 65536) (cs := cs) (k := k) ⟨n0, n1⟩ sg ms hk
        refine ⟨_, rfl, _, rfl, D2, _, _, _, rfl, rfl, SqL.of (S10 _ _ hD2), atI_k (by rw [List.getElem?_map, hr']; rfl), r, _, rfl, SqL.of (S10 _ _ hr9), hb, fun v H11 S11 d11 => ?_⟩
        rw [piece_row ⟨n0, n1⟩ sg hk] at d11
        have S11 := S10.trans S11
        obtain ⟨av, vs, ev, sq⟩ : ∃ av vs, v = .ref av ∧ SqT K H11 av vs := by
          cases d11 with
          | tup q r => exact ⟨_, _, rfl, q⟩
        subst ev
        refine ⟨_, rfl, .ref av, .ty "tuple", _, _, _, rfl, .ty _, tyxTup sq, (kit_ty (by decide +kernel) : PySem.W.kitOne K (.type "tuple") (.type "tuple") = some true), ?_⟩
        refine ⟨_, rfl, iteF ⟨_, rfl, _, rfl, _, rfl, D, _, rfl, .inl (SqL.of (S11 _ _ hD9)), _, rfl, _, rfl, _, rfl, _, _, rfl, rfl, .inl ⟨by decide, by decide⟩, _, rfl, _, rfl, _, _, rfl, rfl, .inl ⟨by decide, by decide⟩, _, _, rfl, rfl, _, rfl, _, rfl, ?_, ?_⟩⟩
        · rw [ofL_len]
          exact Nat.le_trans cl2 (by decide)
        rw [cut_part, List.length_map, rl, Int.zero_add (k : Int)]
        refine ⟨(by show 4 ≤ sizeLine; decide), fun p np => ?_⟩
        have hshape : SeqAt.shaped (.tuple [.int (k : Int), .int (manyOf cs : Int), .int ((r1 * 1000 + r2) % 65536), .str (ofL (partOf cs k))]) = true := by
          have := shaped_piece hb
          rwa [piece_row ⟨n0, n1⟩ sg hk] at this
        refine ⟨_, .tuple [.int (k : Int), .int (manyOf cs : Int), .int ((r1 * 1000 + r2) % 65536), .str (ofL (partOf cs k))], dp_same (same_new np) d11, .tup (SqT.of upd_same) (.cons (.int _) (.cons (.int _) (.cons (.int _) (.cons (.str _) .nil)))), hshape, hshape, ?_⟩
        rw [eqv_self hshape]
        exact ⟨_, rfl, iteF ⟨_, _, rfl, S11.trans (same_new np)⟩⟩
      · rintro σ H10 ⟨v8, v9, rfl, S10⟩
        have B10 := B9.same S10
        refine ⟨_, rfl, b, 1000, rfl, B10, by decide, fun r6 H11 r60 r61 B11 U11 => ⟨(by show 3 ≤ sizeLine; decide), fun l2 nl2 => ?_⟩⟩
        refine ⟨_, rfl, b, 3, rfl, B11.new nl2, by decide, fun r7 H12 r70 r71 B12 U12 => ?_⟩
        have hl2 := B11.keepL nl2 U12
        obtain ⟨g, eg, g0, g1⟩ : ∃ g : Int, atI [V.int 0, .int 1000, .int r6] r7 = some (.int g) ∧ 0 ≤ g ∧ g ≤ 1000 := by
          have c : r7 = 0 ∨ r7 = 1 ∨ r7 = 2 := by omega
          rcases c with rfl | rfl | rfl
          · exact ⟨0, rfl, by decide, by decide⟩
          · exact ⟨1000, rfl, by decide, by decide⟩
          · exact ⟨r6, rfl, r60, by omega⟩
        obtain ⟨hbh, hdh⟩ := head_row ⟨g0, g1⟩
        refine ⟨l2, _, _, _, rfl, rfl, SqL.of hl2, eg, _, rfl, g, rfl, fun hh H13 S13 nh hh13 => ?_⟩
        refine ⟨_, rfl, _, rfl, _, _, rfl, rfl, ⟨by decide, by decide⟩, _, rfl, .inl ⟨_, rfl, _, _, rfl, rfl, (by show (0 : Int) < 256; decide), (by show 3 ≤ sizeLine; decide), fun p1 np1 => ?_⟩⟩
        refine ⟨(by show 1 ≤ sizeLine; decide), fun p2 np2 => ⟨p2, 28, _, rfl, rfl, upd_same, by decide, by decide, by decide, fun p3 np3 => ?_⟩⟩
        rw [show ((28 : Int)).toNat = 28 from rfl, rep_flat]
        have X1 := same_new (o := .lst [V.int 72, .int (g / 256), .int (g % 256)]) np1
        have X2 := same_new (o := .lst [V.int 0]) np2
        have X3 := same_new (o := .lst ((List.replicate 28 (0 : Int)).map V.int)) np3
        refine ⟨p1, p3, _, _, rfl, rfl, (X2.trans X3) _ _ upd_same, upd_same, (show 3 + 28 ≤ sizeLine by decide), fun p4 np4 => ?_⟩
        have X4 := same_new (o := .lst ([V.int 72, .int (g / 256), .int (g % 256)] ++ (List.replicate 28 (0 : Int)).map V.int)) np4
        refine ⟨(by show 1 ≤ sizeLine; decide), fun p5 np5 => ?_⟩
        have X5 := same_new (o := .lst [V.int 72]) np5
        refine ⟨p4, p5, _, _, rfl, rfl, X5 _ _ upd_same, upd_same, (show 31 + 1 ≤ sizeLine by decide), fun p6 np6 => ?_⟩
        have X := ((((X1.trans X2).trans X3).trans X4).trans X5).trans (same_new (o := .lst ((headOf (g / 256) (g % 256)).map V.int)) np6)
        refine ⟨.list ((headOf (g / 256) (g % 256)).map PyData.int), .list ((headOf (g / 256) (g % 256)).map PyData.int), .lst (SqL.of (X _ _ hh13)) dpI, .lst (SqL.of (show _ = some (HO.lst ((headOf (g / 256) (g % 256)).map V.int)) from upd_same)) dpI, PySem.W.ke_shaped_ints _, PySem.W.ke_shaped_ints _, ?_⟩
        rw [eqv_self (PySem.W.ke_shaped_ints _)]
        refine ⟨_, rfl, iteF ⟨_, rfl, hh, _, rfl, SqL.of (X _ _ hh13), hbh, fun v H14 S14 d14 => ?_⟩⟩
        rw [hdh] at d14
        refine ⟨_, rfl, _, _, d14, .int g, rfl, rfl, ?_⟩
        rw [eqv_self rfl]
        refine ⟨_, rfl, iteF ⟨_, _, _, _, _, _, _, _, _, _, rfl, ?_⟩⟩
        exact ((B12.same S13).same X).same S14
    · rintro σ H0 ⟨v2, v3, v4, v5, v6, v7, v8, v9, v10, v11, rfl, B0⟩
      refine ⟨_, rfl, b, 1, rfl, B0, by decide, by decide, fun cs H2 cl sg B2 U2 => ?_⟩
      obtain ⟨c, rfl⟩ : ∃ c, cs = [c] := by
        match cs, cl with
        | [c], _ => exact ⟨c, rfl⟩
      refine ⟨_, rfl, _, rfl, b, 90, rfl, B2, by decide, fun r1 H3 r10 r11 B3 U3 => ⟨_, _, rfl, rfl, _, _, rfl, rfl, mul_ok c _ (by omega) (by omega), ?_⟩⟩
      rw [mul_one]
      have rl1 : (List.replicate (6121 + r1).toNat c).length = (6121 + r1).toNat := List.length_replicate
      refine ⟨1, _, rfl, by omega, fun good => ?_, fun _ a4 H4 S4 h4 => ?_⟩
      · unfold manyOf at good
        omega
      refine ⟨(by show 2 ≤ sizeLine; decide), fun p np => ?_⟩
      have S5 := same_new (o := .tup [V.str "refused", .str "text"]) np
      refine ⟨.tuple [.str "refused", .str "text"], .tuple [.str "refused", .str "text"], .tup (SqT.of (S5 _ _ h4)) (.cons (.str _) (.cons (.str _) .nil)), .tup (SqT.of upd_same) (.cons (.str _) (.cons (.str _) .nil)), by decide +kernel, by decide +kernel, ?_⟩
      rw [eqv_self (d := .tuple [.str "refused", .str "text"]) (by decide +kernel)]
      refine ⟨_, rfl, iteF ?_⟩
      refine ⟨_, rfl, _, _, rfl, rfl, mul_ok c 6120 (by decide) (by decide), ?_⟩
      rw [mul_one]
      have e255 : manyOf (List.replicate ((6120 : Int)).toNat c) = 255 := by
        unfold manyOf
        rw [List.length_replicate]
        rfl
      refine ⟨2, _, rfl, (by rw [List.length_replicate]; decide), fun _ D H6 S6 rec => ?_, fun bad => absurd (by rw [e255]; exact Nat.le_refl _) bad⟩
      obtain ⟨rs, nD, hD, rl, hrs⟩ := rec
      refine ⟨D, _, rfl, .inl (SqL.of hD), ?_⟩
      rw [List.length_map, rl, e255]
      refine ⟨rfl, _, rfl, iteT ⟨(by show 2 ≤ sizeLine; decide), fun p1 np1 => ⟨(by show 2 ≤ sizeLine; decide), fun p2 np2 => ?_⟩⟩⟩
      refine ⟨.tuple [.int 24, .int 255], .tuple [.int 24, .int 255], .tup (SqT.of (same_new np2 _ _ upd_same)) (.cons (.int _) (.cons (.int _) .nil)), .tup (SqT.of upd_same) (.cons (.int _) (.cons (.int _) .nil)), by decide +kernel, by decide +kernel, ?_⟩
      rw [eqv_self (d := .tuple [.int 24, .int 255]) (by decide +kernel)]
      exact q _
end
end LB

set_option maxRecDepth 100000
set_option maxHeartbeats 8000000
namespace LB
open PySem PySem.Spec PyProof.Rows L2
open PySem.W (nsIn findIn subIn typeIn mroIn keepIn codeIn hasDictIn isClsIn specialIn takesIn)
/-- the law's def keeps its promise, from what the top has written -/
theorem all_mk {l : PySem.W.OpenLaw} {w : World} {K : PySem.W.Frag} {h : Heap} {mg : Str → Option Value} {fa : Addr} (X : K.In h) (G : h.Ns mainGlobals mg) (hfa : mg "law" = some (.ref fa))
    {fCell fDig fDr fEr fEp fEh fDp fDh fMk fZr fLp fLs fEd fLw C B fI cc cda N0 : Addr} {odCell anCell odDig anDig odDr anDr odEr anEr odEp anEp odEh anEh odDp anDp odDh anDh odMk anMk odZr anZr odLp anLp odLs anLs odEd anEd odLw anLw odI anI ocd cdd : Option Addr} {slCell slDig slDr slEr slEp slEh slDp slDh slMk slZr slLp slLs slEd slLw slI csl ccs : Array (Option Value)} {ocCell kVCell dcCell pmCell cdCell ctCell ocDig kVDig dcDig pmDig cdDig ctDig ocDr kVDr dcDr pmDr cdDr ctDr ocEr kVEr dcEr pmEr cdEr ctEr ocEp kVEp dcEp pmEp cdEp ctEp ocEh kVEh dcEh pmEh cdEh ctEh ocDp kVDp dcDp pmDp cdDp ctDp ocDh kVDh dcDh pmDh cdDh ctDh ocMk kVMk dcMk pmMk cdMk ctMk ocZr kVZr dcZr pmZr cdZr ctZr ocLp kVLp dcLp pmLp cdLp ctLp ocLs kVLs dcLs pmLs cdLs ctLs ocEd kVEd dcEd pmEd cdEd ctEd ocLw kVLw dcLw pmLw cdLw ctLw ocI dcI pmI ctI clc ccl : Value} {t6 tpc tpm thm tgr tch tbl tmo : Tok} {chz : Str}
    {nm qn file : Str} {bs : List Value} {sn : List Str} {sub : List Value} {ab : Bool} {col : Option Bool} {dd : Option Addr} {m0 m1 m2 m3 m5 : Option Value} {vs : Array Value} {tf : Tok}
    (aCell : nsIn K mainGlobals "_law_cell" = some (some (.ref fCell)))
    (lCell : K.lookup fCell = some ⟨ocCell, odCell, .func (PySem.W.fnOf "_law_cell" "_law_cell" (defArgs sCell) (defBody sCell) (defScope sCell) .none kVCell dcCell pmCell anCell cdCell ctCell), slCell⟩)
    (cCell : codeIn K cdCell "_law_cell" = true)
    (kCell : keepIn K (.ref fCell) = true)
    (aDig : nsIn K mainGlobals "_law_digits" = some (some (.ref fDig)))
    (lDig : K.lookup fDig = some ⟨ocDig, odDig, .func (PySem.W.fnOf "_law_digits" "_law_digits" (defArgs sDigits) (defBody sDigits) (defScope sDigits) .none kVDig dcDig pmDig anDig cdDig ctDig), slDig⟩)
    (cDig : codeIn K cdDig "_law_digits" = true)
    (kDig : keepIn K (.ref fDig) = true)
    (aDr : nsIn K mainGlobals "_law_draw" = some (some (.ref fDr)))
    (lDr : K.lookup fDr = some ⟨ocDr, odDr, .func (PySem.W.fnOf "_law_draw" "_law_draw" (defArgs sDraw) (defBody sDraw) (defScope sDraw) .none kVDr dcDr pmDr anDr cdDr ctDr), slDr⟩)
    (cDr : codeIn K cdDr "_law_draw" = true)
    (kDr : keepIn K (.ref fDr) = true)
    (aEr : nsIn K mainGlobals "encode_record" = some (some (.ref fEr)))
    (lEr : K.lookup fEr = some ⟨ocEr, odEr, .func (PySem.W.fnOf "encode_record" "encode_record" (defArgs sEncR) (defBody sEncR) (defScope sEncR) .none kVEr dcEr pmEr anEr cdEr ctEr), slEr⟩)
    (cEr : codeIn K cdEr "encode_record" = true)
    (kEr : keepIn K (.ref fEr) = true)
    (aEp : nsIn K mainGlobals "encode_piece" = some (some (.ref fEp)))
    (lEp : K.lookup fEp = some ⟨ocEp, odEp, .func (PySem.W.fnOf "encode_piece" "encode_piece" (defArgs sEncP) (defBody sEncP) (defScope sEncP) .none kVEp dcEp pmEp anEp cdEp ctEp), slEp⟩)
    (cEp : codeIn K cdEp "encode_piece" = true)
    (kEp : keepIn K (.ref fEp) = true)
    (aEh : nsIn K mainGlobals "encode_head" = some (some (.ref fEh)))
    (lEh : K.lookup fEh = some ⟨ocEh, odEh, .func (PySem.W.fnOf "encode_head" "encode_head" (defArgs sEncH) (defBody sEncH) (defScope sEncH) .none kVEh dcEh pmEh anEh cdEh ctEh), slEh⟩)
    (cEh : codeIn K cdEh "encode_head" = true)
    (kEh : keepIn K (.ref fEh) = true)
    (aDp : nsIn K mainGlobals "decode_piece" = some (some (.ref fDp)))
    (lDp : K.lookup fDp = some ⟨ocDp, odDp, .func (PySem.W.fnOf "decode_piece" "decode_piece" (defArgs sDecP) (defBody sDecP) (defScope sDecP) .none kVDp dcDp pmDp anDp cdDp ctDp), slDp⟩)
    (cDp : codeIn K cdDp "decode_piece" = true)
    (kDp : keepIn K (.ref fDp) = true)
    (aDh : nsIn K mainGlobals "decode_head" = some (some (.ref fDh)))
    (lDh : K.lookup fDh = some ⟨ocDh, odDh, .func (PySem.W.fnOf "decode_head" "decode_head" (defArgs sDecH) (defBody sDecH) (defScope sDecH) .none kVDh dcDh pmDh anDh cdDh ctDh), slDh⟩)
    (cDh : codeIn K cdDh "decode_head" = true)
    (kDh : keepIn K (.ref fDh) = true)
    (aMk : nsIn K mainGlobals "has_marks" = some (some (.ref fMk)))
    (lMk : K.lookup fMk = some ⟨ocMk, odMk, .func (PySem.W.fnOf "has_marks" "has_marks" (defArgs sMarks) (defBody sMarks) (defScope sMarks) .none kVMk dcMk pmMk anMk cdMk ctMk), slMk⟩)
    (cMk : codeIn K cdMk "has_marks" = true)
    (kMk : keepIn K (.ref fMk) = true)
    (aZr : nsIn K mainGlobals "are_zeros" = some (some (.ref fZr)))
    (lZr : K.lookup fZr = some ⟨ocZr, odZr, .func (PySem.W.fnOf "are_zeros" "are_zeros" (defArgs sZeros) (defBody sZeros) (defScope sZeros) .none kVZr dcZr pmZr anZr cdZr ctZr), slZr⟩)
    (cZr : codeIn K cdZr "are_zeros" = true)
    (kZr : keepIn K (.ref fZr) = true)
    (aLp : nsIn K mainGlobals "_law_pieces" = some (some (.ref fLp)))
    (lLp : K.lookup fLp = some ⟨ocLp, odLp, .func (PySem.W.fnOf "_law_pieces" "_law_pieces" (defArgs sPieces) (defBody sPieces) (defScope sPieces) .none kVLp dcLp pmLp anLp cdLp ctLp), slLp⟩)
    (cLp : codeIn K cdLp "_law_pieces" = true)
    (kLp : keepIn K (.ref fLp) = true)
    (aLs : nsIn K mainGlobals "_law_stored_text" = some (some (.ref fLs)))
    (lLs : K.lookup fLs = some ⟨ocLs, odLs, .func (PySem.W.fnOf "_law_stored_text" "_law_stored_text" (defArgs sStored) (defBody sStored) (defScope sStored) .none kVLs dcLs pmLs anLs cdLs ctLs), slLs⟩)
    (cLs : codeIn K cdLs "_law_stored_text" = true)
    (kLs : keepIn K (.ref fLs) = true)
    (aEd : nsIn K mainGlobals "_law_encoded" = some (some (.ref fEd)))
    (lEd : K.lookup fEd = some ⟨ocEd, odEd, .func (PySem.W.fnOf "_law_encoded" "_law_encoded" (defArgs sEncoded) (defBody sEncoded) (defScope sEncoded) .none kVEd dcEd pmEd anEd cdEd ctEd), slEd⟩)
    (cEd : codeIn K cdEd "_law_encoded" = true)
    (kEd : keepIn K (.ref fEd) = true)
    (aLw : nsIn K mainGlobals "law" = some (some (.ref fLw)))
    (lLw : K.lookup fLw = some ⟨ocLw, odLw, .func (PySem.W.fnOf "law" "law" (defArgs sLaw) (defBody sLaw) (defScope sLaw) .none kVLw dcLw pmLw anLw cdLw ctLw), slLw⟩)
    (cLw : codeIn K cdLw "law" = true)
    (kLw : keepIn K (.ref fLw) = true)
    (z0 : nsIn K mainGlobals "len" = some none)
    (z1 : nsIn K mainGlobals "range" = some none)
    (z2 : nsIn K mainGlobals "int" = some none)
    (z3 : nsIn K mainGlobals "repr" = some none)
    (z4 : nsIn K mainGlobals "all" = some none)
    (z5 : nsIn K mainGlobals "ord" = some none)
    (z6 : nsIn K mainGlobals "list" = some none)
    (z7 : nsIn K mainGlobals "max" = some none)
    (z8 : nsIn K mainGlobals "enumerate" = some none)
    (z9 : nsIn K mainGlobals "isinstance" = some none)
    (z10 : nsIn K mainGlobals "tuple" = some none)
    (aC : nsIn K mainGlobals "OutOfRange" = some (some (.ref C)))
    (aB : nsIn K mainGlobals "ForetoldError" = some (some (.ref B)))
    (xL : K.lookup C = some (excClassObj nm qn C N0 bs (.ref B :: veMro) true sn sub ab col dd m0 m1 m2 m3 m5 "ValueError.__new__"))
    (sa : findIn K (.ref C) "__setattr__" = some (some (.builtin "object.__setattr__")))
    (ga : findIn K (.ref C) "__getattribute__" = some (some (.builtin "BaseException.__getattribute__")))
    (gg : findIn K (.ref C) "__getattr__" = some none)
    (gn : findIn K (.ref C) "name" = some none)
    (iC : findIn K (.ref C) "__init__" = some (some (.ref fI)))
    (tI : typeIn K (.ref fI) = some (.type "function"))
    (kC : keepIn K (.ref C) = true)
    (eC : subIn K (.ref C) (.type "BaseException") = some true)
    (vC : subIn K (.ref C) (.type "ValueError") = some true)
    (tC : typeIn K (.ref C) = some (.type "type"))
    (hC : hasDictIn K C = true)
    (mC : mroIn K C (.ref C) = some true)
    (up : PySem.W.ks_superIn K C C "__init__" = some (some (.builtin "ValueError.__init__")))
    (xM : PySem.W.excInitIn K C veMro "ValueError.__new__" = true)
    (op : nsIn K cStatics "thirdparty.any" = some none)
    (nS : nsIn K mainGlobals "super" = some none)
    (lI : K.lookup fI = some ⟨ocI, odI, .func (PySem.W.ksFn "__init__" "OutOfRange.__init__" (eA ⟨6, 17, 6, 21⟩ ⟨6, 23, 6, 27⟩) (eB " is out of range" 0 ⟨7, 8, 7, 13⟩ ⟨7, 8, 7, 15⟩ ⟨7, 8, 7, 24⟩ ⟨7, 28, 7, 32⟩ ⟨7, 27, 7, 33⟩ ⟨7, 33, 7, 49⟩ ⟨7, 25, 7, 50⟩ ⟨7, 8, 7, 51⟩ ⟨7, 8, 7, 51⟩ ⟨8, 8, 8, 12⟩ ⟨8, 8, 8, 17⟩ ⟨8, 20, 8, 24⟩ ⟨8, 8, 8, 24⟩) eS .none .none dcI pmI anI (.ref cda) ctI cc), slI⟩)
    (cI : codeIn K (.ref cda) "OutOfRange.__init__" = true)
    (lc : K.lookup cc = some ⟨clc, ocd, .cell (some (.ref C)), csl⟩)
    (ld : K.lookup cda = some ⟨ccl, cdd, .fields vs, ccs⟩)
    (lv : vs[2]? = some (.str file tf))
    (lf : ((l.prog.main.file : Str) == file) = true)
    (lt : (l.prog.main.scope.names.lookup ("super" : Str)).isSome = false)
    (sC : subIn K (.ref C) (.ref C) = some true)
    (c6 : nsIn K mainGlobals "TEXT_AT" = some (some (.int 6 t6)))
    (cpc : nsIn K mainGlobals "PIECE" = some (some (.int 24 tpc)))
    (cpm : nsIn K mainGlobals "PIECE_MARK" = some (some (.int 74 tpm)))
    (chm : nsIn K mainGlobals "HEAD_MARK" = some (some (.int 72 thm)))
    (cgr : nsIn K mainGlobals "GRACE_MOST" = some (some (.int 1000 tgr)))
    (cch : nsIn K mainGlobals "CHARACTERS" = some (some (.str chz tch)))
    (chT : TL.tl chz = charL)
    (cbl : nsIn K mainGlobals "BLOCK" = some (some (.int 32 tbl)))
    (cmo : nsIn K mainGlobals "PIECES_MOST" = some (some (.int 255 tmo))) :
    ∃ fd : FuncData, (∀ (s : Shared) (u : Value), BindsTo s fd ⟨[u], []⟩ [("script", u)]) ∧ ∀ base : Heap, K.In base → base.Ns mainGlobals mg → FnG l.prog w K mg base CX0 5 fa fd ["script"] (spLaw K) := by
  have FCell := fun_mk (st := sCell) lCell cCell kCell
  have bCell := FCell.binds (ps := ["script", "k"]) fun _ _ _ _ _ _ us hl => match us, hl with | [_, _], _ => rfl
  have mCell := PySem.W.mg_of X G aCell
  have FDig := fun_mk (st := sDigits) lDig cDig kDig
  have bDig := FDig.binds (ps := ["script", "first", "last"]) fun _ _ _ _ _ _ us hl => match us, hl with | [_, _, _], _ => rfl
  have mDig := PySem.W.mg_of X G aDig
  have FDr := fun_mk (st := sDraw) lDr cDr kDr
  have bDr := FDr.binds (ps := ["box", "many"]) fun _ _ _ _ _ _ us hl => match us, hl with | [_, _], _ => rfl
  have mDr := PySem.W.mg_of X G aDr
  have FEr := fun_mk (st := sEncR) lEr cEr kEr
  have bEr := FEr.binds (ps := ["number", "text"]) fun _ _ _ _ _ _ us hl => match us, hl with | [_, _], _ => rfl
  have mEr := PySem.W.mg_of X G aEr
  have FEp := fun_mk (st := sEncP) lEp cEp kEp
  have bEp := FEp.binds (ps := ["index", "many", "number", "text"]) fun _ _ _ _ _ _ us hl => match us, hl with | [_, _, _, _], _ => rfl
  have mEp := PySem.W.mg_of X G aEp
  have FEh := fun_mk (st := sEncH) lEh cEh kEh
  have bEh := FEh.binds (ps := ["grace"]) fun _ _ _ _ _ _ us hl => match us, hl with | [_], _ => rfl
  have mEh := PySem.W.mg_of X G aEh
  have FDp := fun_mk (st := sDecP) lDp cDp kDp
  have bDp := FDp.binds (ps := ["block"]) fun _ _ _ _ _ _ us hl => match us, hl with | [_], _ => rfl
  have mDp := PySem.W.mg_of X G aDp
  have FDh := fun_mk (st := sDecH) lDh cDh kDh
  have bDh := FDh.binds (ps := ["block"]) fun _ _ _ _ _ _ us hl => match us, hl with | [_], _ => rfl
  have mDh := PySem.W.mg_of X G aDh
  have FMk := fun_mk (st := sMarks) lMk cMk kMk
  have bMk := FMk.binds (ps := ["block", "mark"]) fun _ _ _ _ _ _ us hl => match us, hl with | [_, _], _ => rfl
  have mMk := PySem.W.mg_of X G aMk
  have FZr := fun_mk (st := sZeros) lZr cZr kZr
  have bZr := FZr.binds (ps := ["numbers"]) fun _ _ _ _ _ _ us hl => match us, hl with | [_], _ => rfl
  have mZr := PySem.W.mg_of X G aZr
  have FLp := fun_mk (st := sPieces) lLp cLp kLp
  have bLp := FLp.binds (ps := ["number", "text"]) fun _ _ _ _ _ _ us hl => match us, hl with | [_, _], _ => rfl
  have mLp := PySem.W.mg_of X G aLp
  have FLs := fun_mk (st := sStored) lLs cLs kLs
  have bLs := FLs.binds (ps := ["box", "many"]) fun _ _ _ _ _ _ us hl => match us, hl with | [_, _], _ => rfl
  have mLs := PySem.W.mg_of X G aLs
  have FEd := fun_mk (st := sEncoded) lEd cEd kEd
  have bEd := FEd.binds (ps := ["number", "text"]) fun _ _ _ _ _ _ us hl => match us, hl with | [_, _], _ => rfl
  have mEd := PySem.W.mg_of X G aEd
  have FLw := fun_mk (st := sLaw) lLw cLw kLw
  have n0 := PySem.W.mg_none_of X G z0
  have n1 := PySem.W.mg_none_of X G z1
  have n2 := PySem.W.mg_none_of X G z2
  have n3 := PySem.W.mg_none_of X G z3
  have n4 := PySem.W.mg_none_of X G z4
  have n5 := PySem.W.mg_none_of X G z5
  have n6 := PySem.W.mg_none_of X G z6
  have n7 := PySem.W.mg_none_of X G z7
  have n8 := PySem.W.mg_none_of X G z8
  have n9 := PySem.W.mg_none_of X G z9
  have n10 := PySem.W.mg_none_of X G z10
  have low : Oor K mg l.prog "OutOfRange" C fI cc cda :=
    { gC := PySem.W.mg_of X G aC, cls := ⟨nm, qn, N0, bs, _, sn, sub, ab, col, dd, m0, m1, m2, m3, m5, xL, by rfl⟩, sa := sa, ga := ga, gg := gg, noN := gn, iC := iC, tC := tI, kC := kC, exC := eC, veC := vC, tyC := tC, hdC := hC, me := mC, up := up, made := xM, op := op,
      mgS := PySem.W.mg_none_of X G nS, top := lt, cell := ⟨_, _, _, lc⟩, code := ⟨_, _, _, _, _, _, ld, lv, lf⟩, fn := ⟨_, _, _, _, _, _, _, _, _, _, _, _, _, _, _, _, _, _, _, _, _, _, _, _, _, lI, cI, by decide +kernel, rfl⟩ }
  have exC := PySem.W.exm_ref eC hC tC sC
  have M0 : Names mg := ⟨n0, n1, n2, n3⟩
  have MW : NamesW mg := ⟨M0, n4, n5, n6, n7⟩
  have M : NamesX mg := ⟨MW, n8, n9, n10⟩
  have T0 : TopW mg := ⟨⟨_, PySem.W.mg_of X G c6⟩, ⟨_, PySem.W.mg_of X G cpc⟩, ⟨_, PySem.W.mg_of X G cpm⟩, ⟨_, PySem.W.mg_of X G chm⟩, ⟨_, PySem.W.mg_of X G cgr⟩, ⟨_, _, PySem.W.mg_of X G cch, chT⟩⟩
  have T : TopX mg := ⟨T0, ⟨_, PySem.W.mg_of X G cbl⟩, ⟨_, PySem.W.mg_of X G cmo⟩⟩
  have e := hfa.symm.trans (PySem.W.mg_of X G aLw)
  cases e
  refine ⟨_, fun s v => .of_eq rfl, fun base _ _ => ok_law FLw ?_⟩
  have GE : FnOk l.prog w K mg base (L2.CX l.prog w) 3 fEr _ ["number", "text"] (spEncR K C) := ok_encR FEr low M T FEp mEp bEp
  exact
    { D := ⟨_, _, ok_draw FDr M0, mDr, kDr, bDr⟩, G := ⟨_, _, ok_digits FDig M0 FCell mCell bCell, mDig, kDig, bDig⟩,
      Pi := ⟨_, _, ok_pieces FLp MW, mLp, kLp, bLp⟩, S := ⟨_, _, ok_stored FLs MW FDr mDr bDr, mLs, kLs, bLs⟩,
      E := ⟨_, _, ok_encoded FEd low exC GE mEr kEr bEr, mEd, kEd, bEd⟩, H_ := ⟨_, _, ok_encH FEh T, mEh, kEh, bEh⟩,
      R := ⟨_, _, ok_decP FDp MW T0 FMk mMk bMk FZr mZr bZr, mDp, kDp, bDp⟩, T := ⟨_, _, ok_decH FDh MW T0 FMk mMk bMk FZr mZr bZr, mDh, kDh, bDh⟩, names := M, tops := T }
end LB

open PySem PySem.W PyProof.Rows
set_option maxRecDepth 100000 in
set_option maxHeartbeats 0 in
theorem PySem.Challenge.cw_asforetold_k43_records_in_pieces_holds : PySem.Challenge.rw_asforetold_k43_records_in_pieces.Holds := by
  w_on; o_law; k_head; (case hw => w_witness2)
  k_fill
  refine LB.walk_free (l := PySem.Challenge.rw_asforetold_k43_records_in_pieces) (n := 63) (k := 5) (x := "script") (CX := L2.CX0) (sp := LB.spLaw) rfl (by decide) rfl ⟨rfl, by decide, by decide⟩ (fun w h Y => PySem.W.kIn_of Y) ?F (fun K H a ns hl _ hS => ⟨a, ns, rfl, hS, fun _ => rfl⟩) fun _ _ _ _ z => z
  case F =>
    intro w mg fa h KX G hmg
    refine' LB.all_mk KX G hmg ?aCell ?lCell ?cCell ?kCell ?aDig ?lDig ?cDig ?kDig ?aDr ?lDr ?cDr ?kDr ?aEr ?lEr ?cEr ?kEr ?aEp ?lEp ?cEp ?kEp ?aEh ?lEh ?cEh ?kEh ?aDp ?lDp ?cDp ?kDp ?aDh ?lDh ?cDh ?kDh ?aMk ?lMk ?cMk ?kMk ?aZr ?lZr ?cZr ?kZr ?aLp ?lLp ?cLp ?kLp ?aLs ?lLs ?cLs ?kLs ?aEd ?lEd ?cEd ?kEd ?aLw ?lLw ?cLw ?kLw ?z0 ?z1 ?z2 ?z3 ?z4 ?z5 ?z6 ?z7 ?z8 ?z9 ?z10 ?aC ?aB ?xL ?sa ?ga ?gg ?gn ?iC ?tI ?kC ?eC ?vC ?tC ?hC ?mC ?up ?xM ?op ?nS ?lI ?cI ?lc ?ld ?lv ?lf ?lt ?sC ?c6 ?cpc ?cpm ?chm ?cgr ?cch ?chT ?cbl ?cmo
    (case aCell => k_is)
    (case lCell => k_is)
    (case cCell => k_is)
    (case kCell => k_is)
    (case aDig => k_is)
    (case lDig => k_is)
    (case cDig => k_is)
    (case kDig => k_is)
    (case aDr => k_is)
    (case lDr => k_is)
    (case cDr => k_is)
    (case kDr => k_is)
    (case aEr => k_is)
    (case lEr => k_is)
    (case cEr => k_is)
    (case kEr => k_is)
    (case aEp => k_is)
    (case lEp => k_is)
    (case cEp => k_is)
    (case kEp => k_is)
    (case aEh => k_is)
    (case lEh => k_is)
    (case cEh => k_is)
    (case kEh => k_is)
    (case aDp => k_is)
    (case lDp => k_is)
    (case cDp => k_is)
    (case kDp => k_is)
    (case aDh => k_is)
    (case lDh => k_is)
    (case cDh => k_is)
    (case kDh => k_is)
    (case aMk => k_is)
    (case lMk => k_is)
    (case cMk => k_is)
    (case kMk => k_is)
    (case aZr => k_is)
    (case lZr => k_is)
    (case cZr => k_is)
    (case kZr => k_is)
    (case aLp => k_is)
    (case lLp => k_is)
    (case cLp => k_is)
    (case kLp => k_is)
    (case aLs => k_is)
    (case lLs => k_is)
    (case cLs => k_is)
    (case kLs => k_is)
    (case aEd => k_is)
    (case lEd => k_is)
    (case cEd => k_is)
    (case kEd => k_is)
    (case aLw => k_is)
    (case lLw => k_is)
    (case cLw => k_is)
    (case kLw => k_is)
    (case z0 => k_is)
    (case z1 => k_is)
    (case z2 => k_is)
    (case z3 => k_is)
    (case z4 => k_is)
    (case z5 => k_is)
    (case z6 => k_is)
    (case z7 => k_is)
    (case z8 => k_is)
    (case z9 => k_is)
    (case z10 => k_is)
    (case aC => k_is)
    (case aB => k_is)
    (case xL => k_is)
    (case sa => k_is)
    (case ga => k_is)
    (case gg => k_is)
    (case gn => k_is)
    (case iC => k_is)
    (case tI => k_is)
    (case kC => k_is)
    (case eC => k_is)
    (case vC => k_is)
    (case tC => k_is)
    (case hC => k_is)
    (case mC => k_is)
    (case up => ks_is)
    (case xM => kx_is)
    (case op => k_is)
    (case nS => k_is)
    (case lI => k_is)
    (case cI => k_is)
    (case lc => k_is)
    (case ld => k_is)
    (case lv => rfl)
    (case lf => (first | rfl | decide +kernel | kernel_rfl))
    (case lt => (first | rfl | decide +kernel | kernel_rfl))
    (case sC => k_is)
    (case c6 => k_is)
    (case cpc => k_is)
    (case cpm => k_is)
    (case chm => k_is)
    (case cgr => k_is)
    (case cch => k_is)
    (case chT => (decide +kernel))
    (case cbl => k_is)
    (case cmo => k_is)

