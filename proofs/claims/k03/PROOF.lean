import PyProof.Rows.All
import Wide.All
import OpenK.AllK
import Wide.FinOn
import HandS.ForExc
import HandS.EndBits
import HandS.Wide
import HandS.TupLe
import HandS.ExcSuper
import HandS.ExcIs
import KE.KExcSuper
import KE.KExcIs
import HandS.Iter
import KE.GoesEnum
import KE.GoesNew
import PyProof.EnumMake
import PyProof.EnumStmt
import KE.GoesMore
import HandS.Walk
import HandS.CallSlots
import HandS.Defaults
import HandS.Codes
import HandS.Comp
import HandS.More
import HandS.IsInst
import HandS.TupMul
import HandS.TupAny
import HandS.Conv
import HandS.SortKw
import KE.DataMinMax
import KE.KExcLine
import PySem.Challenge.RW_asforetold_k03_plans_are_one_tree
set_option Elab.async false
set_option linter.all false
set_option maxRecDepth 100000
set_option maxHeartbeats 2000000
namespace LB
open PySem PySem.Spec PyProof.Rows L2
/-! ### defs that are called where no repr is under way -/
def Free (A : Around) : Prop := A.guards = some []
/-- as a def's promise, but told of calls from places at which no repr is under way alone -/
structure FnG (P : Program) (w : World) (K : PySem.W.Frag) (mg : Str → Option Value) (base : Heap) (CX : CXT) (k : Nat) (f : Addr) (fd : FuncData) (ps : List Str) (sp : Sp) : Prop where
  many : ∀ xs H Q E, sp xs H Q E → xs.length = ps.length
  goes : ∀ (A : Around) (fr : List Env) (s : Shared) (H : Hp) (a : Args) (us : List Value) (xs : List V) (Q : VK) (E : XK), Free A → Room k A → Env0 P w K mg base A fr s H →
    BindsTo s fd a (ps.zip us) → Vals xs us → sp xs H Q E → codeAny (model P w) A (.call (.ref f) a) (CR CX fr P w H s Q E) s
theorem FnG.ofOk {P : Program} {w : World} {K : PySem.W.Frag} {mg : Str → Option Value} {base : Heap} {CX : CXT} {k : Nat} {f : Addr} {fd : FuncData} {ps : List Str} {sp : Sp} (F : FnOk P w K mg base CX k f fd ps sp) : FnG P w K mg base CX k f fd ps sp :=
  ⟨F.len, fun A fr s H a us xs Q E _ => F.run A fr s H a us xs Q E⟩
theorem FnG.up {P : Program} {w : World} {K : PySem.W.Frag} {mg : Str → Option Value} {base : Heap} {CX : CXT} {j k : Nat} {f : Addr} {fd : FuncData} {ps : List Str} {sp : Sp} (F : FnG P w K mg base CX j f fd ps sp) (h : j ≤ k) : FnG P w K mg base CX k f fd ps sp :=
  ⟨F.many, fun A fr s H a us xs Q E g r => F.goes A fr s H a us xs Q E g (r.mono h)⟩
theorem Free.deeper {A : Around} (g : Free A) (env : Env) : Free (A.deeper env) := by
  first
    | exact g
    | (unfold Free at *; simpa [Around.deeper] using g)
/-- by the body, as fn_of -/
theorem FnG.by_body {CX : CXT} {P : Program} {w : World} {K : PySem.W.Frag} {mg : Str → Option Value} {base : Heap} {k : Nat} {f : Addr} {x q : Str} {pa : Arguments} {bd : List Stmt} {sc : Scope} {v1 v2 v3 v4 v5 v6 v7 : Value} {a1 a2 : Option Addr}
    {sl : Array (Option Value)} {N ps : List Str} {sp : Sp} (at_ : K.lookup f = some ⟨v7, a2, .func (PySem.W.fnOf x q pa bd sc v1 v2 v3 v4 a1 v5 v6), sl⟩) (code : PySem.W.codeIn K v5 q = true) (S : FnScope N ps sc)
    (many : ∀ xs H Q E, sp xs H Q E → xs.length = ps.length)
    (body : ∀ (A : Around) (fr : List Env) (s : Shared) (H : Hp) (xs : List V) (Q : VK) (E : XK), Free (A.deeper (envOfC q sc s.heap.objs.size f v5)) → Room k (A.deeper (envOfC q sc s.heap.objs.size f v5)) → sp xs H Q E →
      ∃ t, PSs (cxOf CX P w K mg base N q sc f v5 A fr s H E) bd t ∧ t { nx := fun _ H' => Q .non H', rt := Q } (start N xs) H) :
    FnG P w K mg base CX (k + 1) f (PySem.W.fnOf x q pa bd sc v1 v2 v3 v4 a1 v5 v6) ps sp := by
  constructor
  · exact many
  intro A fr s H a us xs Q E g room e0 bound vals want
  have kin : K.In s.heap := e0.mod.kin.keeps fun b o z => (e0.bs b o z).1
  have nolim : s.heap.NoLimit := e0.mod.nolimit.keeps fun b o z => (e0.bs b o z).1
  have len := many _ _ _ _ want
  obtain ⟨t, derived, reads⟩ := body A fr s H xs Q E (g.deeper _) (room.deeper _) want
  have kinds : ∀ y ∈ ps.zip us, sc.names.lookup y.1 = some .local ∨ (sc.names.lookup y.1 = some .cell ∧ ((cellsFrom (s.heap.objs.size + 1) sc.names []).lookup y.1).isSome = true) := by
    rintro ⟨n, v⟩ hy
    cases S.par n (List.of_mem_zip hy).1 with
    | inl z => exact .inl z
    | inr z => exact .inr ⟨z, PySem.W.cellsFrom_some _ _ _ (.inl z)⟩
  refine codeAny_call_function room.depth (kin _ _ at_) rfl S.co S.gen rfl (PySem.W.codeRec_of kin code) (bound _ _ _ _ ?_)
  refine wpAny_newFunctionEnv_cells S.kind kinds ?_
  intro env he s1 into
  subst he
  refine ⟨nolim.keeps into.toInCall.keep, codeAny_func ?_⟩
  have I := inv_start (CX := CX) (E := E) S room.hd e0 len vals into
  refine wpAny_mono (derived.run [] s1 (start N xs) H _ I reads) ?_ (fun _ _ z => z)
  intro fl s2 z
  cases fl with
  | next =>
    obtain ⟨σ2, H2, J, q⟩ := z
    exact ⟨.non, H2, J.os, J.bare, J.base, J.hok, rfl, q⟩
  | ret u =>
    obtain ⟨v, σ2, H2, J, r, q⟩ := z
    exact ⟨v, H2, J.os, J.bare, J.base, J.hok, r, q⟩
  | brk =>
    obtain ⟨_, _, _, q⟩ := z
    exact q.elim
  | cont =>
    obtain ⟨_, _, _, q⟩ := z
    exact q.elim
theorem FnG.of_fun {P : Program} {w : World} {K : PySem.W.Frag} {mg : Str → Option Value} {base : Heap} {x q : Str} {st : Stmt} {f : Addr} {fd : FuncData} {N ps : List Str} {k : Nat} {sp : Sp} (F : Fun K x q st f fd) (S : FnScope N ps (defScope st)) (many : ∀ xs H Q E, sp xs H Q E → xs.length = ps.length)
    (body : ∀ (cdv : Value) (A : Around) (fr : List Env) (s : Shared) (H : Hp) (xs : List V) (Q : VK) (E : XK), Free (A.deeper (envOfC q (defScope st) s.heap.objs.size f cdv)) → Room k (A.deeper (envOfC q (defScope st) s.heap.objs.size f cdv)) → sp xs H Q E →
      ∃ t, PSs (cxOf CX0 P w K mg base N q (defScope st) f cdv A fr s H E).nox (defBody st) t ∧ t { nx := fun _ H' => Q .non H', rt := Q } (start N xs) H) : FnG P w K mg base CX0 (k + 1) f fd ps sp := by
  obtain ⟨v7, a2, v2, v3, v4, a1, v5, v6, sl, rfl, at_, code⟩ := F.ex
  refine FnG.by_body at_ code S many ?_
  intro A fr s H xs Q E g r want
  obtain ⟨t, h, q⟩ := body v5 A fr s H xs Q E g r want
  exact ⟨t, h.nox, q⟩
section
variable {X : Cx} {CX : CXT} {k : Nat} {f : Addr} {fd : FuncData} {ps : List Str} {sp : Sp} {dvs : List V} {ds : List Value} {E : XK} {x : Str} {p pos : Pos} {e : Expr} {es : List Expr} {t : TA}
/-- f(e, ..), f such a def -/
theorem pe_callF (g : Free X.A) (F : FnG X.prog X.w X.K X.mg X.base CX k f fd ps sp) (hr : Room k X.A) (hg : Gl X x) (hm : X.mg x = some (.ref f)) (hk : PySem.W.keepIn X.K (.ref f) = true) (hb : Binds X.K fd ps ds) (hd : Vals dvs ds) (hx : Passes CX X E)
    (ha : PA X (e :: es) t) (hdb : (x == ("__debug__" : Str)) = false := by decide) (he : starEach (e :: es) X.env = (false, eval e X.env) :: starEach es X.env := by rfl) (hpl : (backTo pos (starEach es X.env)).any (·.1) = false := by rfl) :
    PE X (.Call (.Name x p) (e :: es) [] pos) (tCall sp dvs E t) := by
  constructor
  intro pins s σ H Q I h
  refine wpAny_Call_Name_kw (ld_glob I hg hm ?_ hdb)
  refine PySem.W.callWith_K (h₀ := X.base) I.ok.mod.kin hk (thn (ha.run pos pins s σ H _ I h) ?_) he hpl
  rintro us s1 ⟨xs, H1, I1, r, q⟩
  refine ⟨I1.kIn, ?_⟩
  have r2 : Vals (xs ++ dvs) (us ++ ds) := r.append hd
  have len : (us ++ ds).length = ps.length := r2.length.symm.trans (F.many _ _ _ _ q)
  refine wpAny_call (codeAny_mono (F.goes X.A X.stack s1 H1 ⟨us, []⟩ (us ++ ds) (xs ++ dvs) Q E g hr I1.env0 (hb s1 us I1.kIn len) r2 q) ?_)
  intro res s2 z
  match res, z with
  | .error err, z => exact hx pins σ H1 s1 err s2 I1 z
  | .ok (.ret u), z => exact I1.after z
  | .ok .next, z => exact False.elim z
  | .ok .brk, z => exact False.elim z
  | .ok .cont, z => exact False.elim z
end
end LB

set_option maxRecDepth 100000
set_option maxHeartbeats 2000000
namespace LB
open PySem PySem.Spec PyProof.Rows L2
/-! ### repr of data -/
/-- data whose repr is short enough to be told -/
structure Short (d : PyData) : Prop where
  sh : d.showable = true
  nd : d.hasDict = false
  dp : d.depth ≤ 50
  len : d.shown.length ≤ sizeLine
def rRepr (K : PySem.W.Frag) : List V → Hp → VK → Prop := fun xs H Q => ∃ v d, xs = [v] ∧ Dp K H v d ∧ Short d ∧ Q (.str d.shown) H
theorem call_repr {X : Cx} (g : Free X.A) (hu : X.A.units + 64 < cLine) : CallR X (.builtin "repr") (rRepr X.K) := by
  intro pins s σ H xs us Q I r h
  obtain ⟨v, d, rfl, hd, S, q⟩ := h
  obtain ⟨u, rfl, ru⟩ := vals1 r
  obtain ⟨as, rd⟩ := Dp.reads I d v u hd ru
  have fin : ∀ (a : Addr), Reads s.heap (.ref a) d as → wpAny (model X.prog X.w) X.A (call (.builtin "repr") [.ref a]) (EP X pins σ Q) X.xe s := fun a ra => by
    have dp := S.dp
    refine repr_of_reads' ra S.sh (PyData.noDict_hsm S.nd) g (by omega) (fun _ _ z => z) ?_ S.len
    intro h' t tk kept
    exact ⟨.str d.shown, H, I.kept kept, ⟨_, rfl⟩, q⟩
  cases rd with
  | none => exact PySem.P.repr_of_none ⟨.str _, H, I.tok _, ⟨_, rfl⟩, q⟩
  | bool b => exact PySem.P.repr_of_bool ⟨.str _, H, I.tok _, ⟨_, rfl⟩, q⟩
  | int i t => exact PySem.P.repr_of_int (by have z := S.sh; simpa [PyData.showable] using z) ⟨.str _, H, I.tok _, ⟨_, rfl⟩, q⟩
  | str x t => exact PySem.P.repr_of_str ⟨.str _, H, I.tok _, ⟨_, rfl⟩, q⟩ S.len
  | list h1 h2 h3 h4 => exact fin _ (.list h1 h2 h3 h4)
  | tuple h1 h2 h3 h4 => exact fin _ (.tuple h1 h2 h3 h4)
  | dict h1 h2 h3 h4 h5 => exact absurd S.nd (by simp [PyData.hasDict])
/-- small ints, texts of up to a million signs in all -/
theorem Short.of {d : PyData} (h1 : d.showable = true) (h2 : d.hasDict = false) (h3 : d.depth ≤ 50) (h4 : d.leavesShort 13 = true) (h5 : d.bulk ≤ 2 ^ 20) : Short d :=
  ⟨h1, h2, h3, PyData.shown_fits_bulk (by decide) (by decide) h4 h5⟩
theorem log_small {i : Int} (h : i.natAbs < 10 ^ 12) : i.natAbs.log2 < 1920 := by
  by_cases z : i.natAbs = 0
  · rw [z]; decide
  · have := (Nat.log2_lt z (k := 1920)).mpr (Nat.lt_trans h (by decide))
    exact this
theorem leaf_small {i : Int} (h : i.natAbs < 10 ^ 12) : (PyData.shown (.int i)).length ≤ 13 := PyData.shown_int_le (by simpa using h)
/-- an int below 10 ^ 12 in size -/
def Sm (i : Int) : Prop := i.natAbs < 10 ^ 12
theorem Sm.of {i : Int} (h1 : -1000000000 ≤ i) (h2 : i ≤ 1000000000) : Sm i := by
  have e : (10 : Nat) ^ 12 = 1000000000000 := by decide
  unfold Sm
  rw [e]
  omega
/-! ### two values of one repr -/
def spAlike (K : PySem.W.Frag) : Sp := fun vs H Q _ => ∃ x y d, vs = [x, y] ∧ Dp K H x d ∧ Dp K H y d ∧ Short d ∧ Q (.bl true) H
end LB

set_option maxRecDepth 100000
set_option maxHeartbeats 2000000
namespace LB
open PySem PySem.Spec PyProof.Rows L2
/-! ### the end of a law's row whose def is told of free places alone -/
section
variable {P : Program} {w : World} {K : PySem.W.Frag} {mg mb : Str → Option Value} {CX : CXT} {k : Nat} {fa a : Addr} {fd : FuncData} {x : Str} {sp : Sp} {z : Shared} {us : List Value} {ns : List Int}
/-- what law answers, from a heap H that tracks the script at most -/
theorem answer_from {H : Hp} (g : z.gens = #[]) (only : Only H) (alone : ∀ b, H b ≠ none → b = a) (isL : ∃ d n, (z.heap.get? a).map Obj.data = some (.seq d n)) (kin : K.In z.heap) (apart : H a ≠ none → K.lookup a = none)
    (ng : z.heap.Ns mainGlobals mg) (nb : z.heap.Ns builtinsNs mb) (boot : ∀ y : Str, y ≠ "__name__" → mb y = bootBuiltins y) (nolim : z.heap.NoLimit) (hok : HOk P w H z.heap) (room : Room k callerA)
    (F : ∀ b : Heap, K.In b → b.Ns mainGlobals mg → FnG P w K mg b CX k fa fd [x] sp) (binds : ∀ (s : Shared) (u : Value), BindsTo s fd ⟨[u], []⟩ [(x, u)])
    (want : sp [.ref a] H (fun v _ => v = .bl true) fun _ _ _ => False) (calm : ∀ e s', CX [] H z (fun _ _ _ => False) e s' → False) :
    codeAny (model P w) callerA (.call (.ref fa) ⟨[.ref a], []⟩) (fun r s' => r = .ok (.ret (.bool true)) ∧ OldK z.heap s'.heap ∧ s'.os = z.os ∧ AllBare s'.gens) z := by
  have dictFree : ∀ {b : Addr} {o : Obj} {es : Array DictEntry} {n : Nat}, z.heap.get? b = some o → o.data = .dict es n → H b = none := by
    intro b o es n at_ da
    by_cases q : H b = none
    · exact q
    · have eb := alone b q
      subst eb
      obtain ⟨d, m, e⟩ := isL
      rw [at_] at e
      have e2 := Option.some.inj e
      rw [da] at e2
      cases e2
  have moved : ∀ {b : Addr} {m : Str → Option Value}, z.heap.Ns b m → (hidT z.heap H).Ns b m := by
    rintro b m ⟨o, es, n, at_, da, r⟩
    exact ⟨o, es, n, hidT_get at_ (dictFree at_ da), da, r⟩
  have kin2 : K.In (hidT z.heap H) := by
    intro b o at_
    refine hidT_get (kin b o at_) ?_
    by_cases q : H b = none
    · exact q
    · have eb := alone b q
      subst eb
      rw [apart q] at at_
      cases at_
  obtain ⟨mc, c1, c2⟩ := nolim
  have e0 : Env0 P w K mg (hidT z.heap H) callerA [] z H :=
    { frames := rfl, mod := ⟨kin2, moved ng, ⟨mb, moved nb, boot⟩, ⟨mc, moved c1, c2⟩⟩, bs := fun _ _ at_ => of_hidT at_, bsz := Nat.le_of_eq (hidT_size _ _), funs := trivial,
      frf := fun b hb => absurd (show b ∈ ([] : List Addr) from hb) List.not_mem_nil, hok := hok, bare := .of_eq g }
  refine codeAny_mono ((F _ kin2 (moved ng)).goes callerA [] z H ⟨[.ref a], []⟩ [.ref a] [.ref a] _ _ rfl room e0 (binds z (.ref a)) (.cons rfl .nil) want) ?_
  intro r s' out
  match r, out with
  | .error e, out => exact (calm e s' out).elim
  | .ok .next, out => exact False.elim out
  | .ok .brk, out => exact False.elim out
  | .ok .cont, out => exact False.elim out
  | .ok (.ret u), out =>
    obtain ⟨v, H', os, bare, un, hok', r', q⟩ := out
    have q' : v = .bl true := q
    subst q'
    have eu : u = Value.bool true := r'
    subst eu
    refine ⟨rfl, OldK.of_keep ?_, os, bare⟩
    intro b o at_
    by_cases q : H b = none
    · exact un.keep b o at_ q (fun y => absurd (show b ∈ ([] : List Addr) from y) List.not_mem_nil) List.not_mem_nil
    · rcases only b with y | ⟨ob, xs, y⟩
      · exact absurd y q
      · obtain ⟨e1, _⟩ := hok b _ y
        obtain ⟨e2, _⟩ := hok' b _ (un.frzs b ob _ y)
        rw [at_] at e1
        cases e1
        exact e2
end
theorem walk_free {l : PySem.W.OpenLaw} {n k : Nat} {q : Program} {loose : List Str} {XP : (Str → Option Value) → Heap → Prop} {YP : World → Heap → Prop} {d : DefRec} {K : Params → PySem.W.Frag} {CX : CXT} {sp : PySem.W.Frag → Sp} {x : Str}
    (most : l.most = some n) (small : n ≤ sizeLine) (plain : d.params.defaults = []) (room : Room k callerA) (hY : ∀ (w : World) (h : Heap), YP w h → (K w.params).In h)
    (F : ∀ (w : World) (mg : Str → Option Value) (fa : Addr) (h : Heap), (K w.params).In h → h.Ns mainGlobals mg → mg d.name = some (.ref fa) →
      ∃ fd : FuncData, (∀ (s : Shared) (u : Value), BindsTo s fd ⟨[u], []⟩ [(x, u)]) ∧ ∀ base : Heap, (K w.params).In base → base.Ns mainGlobals mg → FnG l.prog w (K w.params) mg base CX k fa fd [x] (sp (K w.params)))
    (want : ∀ (K : PySem.W.Frag) (H : Hp) (a : Addr) (ns : List Int), ns.length ≤ n → (∀ i ∈ ns, Builtin.Int.intBits i ≤ 1048576) → SqL K H a (ns.map V.int) → sp K [.ref a] H (fun v _ => v = .bl true) fun _ _ _ => False)
    (calm : ∀ (H : Hp) (s : Shared) (e : Value) (s' : Shared), CX [] H s (fun _ _ _ => False) e s' → False) :
    PySem.W.WalkO q loose XP YP l.row.toRowW d [] (fun f vs => PySem.call f vs) := by
  refine Att.attach_callB most plain ?_
  intro w s₀ z mg mb fa o pm cd doc a us ns G Y ho hd hcd hmg at_ nums len bits g
  have kin := hY w _ Y
  obtain ⟨fd, hb, hF⟩ := F w mg fa _ kin G.T.g hmg
  have vals := vals_ints nums
  have lenU : us.length = ns.length := nums.length
  have lenS : (ns.map V.int).length ≤ sizeLine := by rw [List.length_map]; exact Nat.le_trans len small
  have isL : ∃ d n, (z.heap.get? a).map Obj.data = some (.seq d n) := ⟨us.toArray, _, by rw [at_]; rfl⟩
  cases lk : (K w.params).lookup a with
  | some ob =>
    have eo := kin a ob lk
    rw [at_] at eo
    cases eo
    refine answer_from (H := fun _ => none) g (fun _ => .inl rfl) (fun b y => absurd rfl y) isL kin (fun y => absurd rfl y) G.T.g G.T.b G.T.builtins G.T.nolimit (fun b u y => by cases (show (none : Option HO) = some u from y)) room hF hb ?_ fun e s' => calm _ z e s'
    exact want _ _ a ns len bits (.inr ⟨_, us.toArray, _, lk, rfl, rfl, rfl, by simpa [lenU] using lenS, by simpa using vals⟩)
  | none =>
    let S : HO := .frz { cls := .type "list", data := .seq us.toArray } (.lst (ns.map V.int))
    have yes : upd (fun _ => none) a S a = some S := upd_same
    have no : ∀ b, b ≠ a → upd (fun _ => none) a S b = none := fun b hb => by rw [upd_ne hb]
    refine answer_from (H := upd (fun _ => none) a S) g (fun b => ?_) (fun b y => ?_) isL kin (fun _ => lk) G.T.g G.T.b G.T.builtins G.T.nolimit (fun b u y => ?_) room hF hb ?_ fun e s' => calm _ z e s'
    · by_cases hb : b = a
      · subst hb
        exact .inr ⟨_, _, yes⟩
      · exact .inl (no b hb)
    · exact Classical.byContradiction fun hb => y (no b hb)
    · by_cases hb : b = a
      · subst hb
        have ey := Option.some.inj (yes.symm.trans y)
        subst ey
        exact ⟨at_, lenS, us, _, vals, at_⟩
      · rw [no b hb] at y
        cases y
    · exact want _ _ a ns len bits (.inl (.inr ⟨_, yes⟩))
end LB

set_option maxRecDepth 100000
set_option maxHeartbeats 4000000
namespace LB
open PySem PySem.W PySem.Calls PyProof.Rows PySem.HandSPX
/-! ### an own error whose __init__ calls super with an f-string of a name and keeps the name -/
def eA (p1 p2 : Pos) : Arguments := { posonlyargs := [], args := [{ arg := "self", annotation := none, pos := p1 }, { arg := "name", annotation := none, pos := p2 }], vararg := none, kwonlyargs := [], kw_defaults := [], kwarg := none, defaults := [] }
def eB (tx : String) (k0 : Nat) (q1 q2 q3 q4 q5 q6 q7 q8 q9 q10 q11 q12 q13 : Pos) : List Stmt :=
  [.Expr (.Call (.Attribute (.Call (.Name "super" q1) [] [] q2) "__init__" q3) [.JoinedStr [.FormattedValue (.Name "name" q4) (-1) none q5, .Constant (.str tx) k0 q6] q7] [] q8) q9,
   .Assign [.Attribute (.Name "self" q10) "name" q11] (.Name "name" q12) q13]
def eS : Scope := { kind := .function, names := [(PySem.Str.ofString "self", .local), (PySem.Str.ofString "name", .local), (PySem.Str.ofString "__class__", .free), (PySem.Str.ofString "super", .globalImplicit)], isGenerator := false, isCoroutine := false, more := [] }
abbrev veMro : List Value := [.type "ValueError", .type "Exception", .type "BaseException", .type "object"]
/-- what the written part says of the class named n, at C, and of its __init__, at fI -/
structure Oor (K : Frag) (mg : Str → Option Value) (prog : Program) (n : Str) (C fI cc cda : Addr) : Prop where
  gC : mg n = some (.ref C)
  cls : ∃ nm q N bs bm sn sub ab col dd k0 k1 k2 k3 k5, K.lookup C = some (excClassObj nm q C N bs bm true sn sub ab col dd k0 k1 k2 k3 k5 "ValueError.__new__") ∧ refsVE bm = true
  sa : findIn K (.ref C) "__setattr__" = some (some (.builtin "object.__setattr__"))
  ga : findIn K (.ref C) "__getattribute__" = some (some (.builtin "BaseException.__getattribute__"))
  gg : findIn K (.ref C) "__getattr__" = some none
  noN : findIn K (.ref C) "name" = some none
  iC : findIn K (.ref C) "__init__" = some (some (.ref fI))
  tC : typeIn K (.ref fI) = some (.type "function")
  kC : keepIn K (.ref C) = true
  exC : subIn K (.ref C) (.type "BaseException") = some true
  veC : subIn K (.ref C) (.type "ValueError") = some true
  tyC : typeIn K (.ref C) = some (.type "type")
  hdC : hasDictIn K C = true
  me : mroIn K C (.ref C) = some true
  up : ks_superIn K C C "__init__" = some (some (.builtin "ValueError.__init__"))
  made : excInitIn K C veMro "ValueError.__new__" = true
  op : nsIn K cStatics "thirdparty.any" = some none
  mgS : mg "super" = none
  top : (prog.main.scope.names.lookup ("super" : Str)).isSome = false
  cell : ∃ (cl : Value) (cld : Option Addr) (csl : Array (Option Value)), K.lookup cc = some ⟨cl, cld, .cell (some (.ref C)), csl⟩
  code : ∃ (ccl : Value) (cdd : Option Addr) (vs : Array Value) (ccs : Array (Option Value)) (file : Str) (tf : Tok), K.lookup cda = some ⟨ccl, cdd, .fields vs, ccs⟩ ∧ vs[2]? = some (.str file tf) ∧ ((prog.main.file : Str) == file) = true
  fn : ∃ (oc : Value) (od : Option Addr) (q : Str) (doc pm : Value) (an : Option Addr) (ct : Value) (osl : Array (Option Value)) (tx : String) (k0 : Nat) (p1 p2 q1 q2 q3 q4 q5 q6 q7 q8 q9 q10 q11 q12 q13 : Pos),
    K.lookup fI = some ⟨oc, od, .func (ksFn "__init__" q (eA p1 p2) (eB tx k0 q1 q2 q3 q4 q5 q6 q7 q8 q9 q10 q11 q12 q13) eS .none .none doc pm an (.ref cda) ct cc), osl⟩ ∧ codeIn K (.ref cda) q = true ∧ (Str.ofString tx).length ≤ 1000 ∧ (q3.endLine == q8.line) = true
/-- what __init__ leaves of a fresh error at x -/
structure ErrEnd (h h' : Heap) (x C dx : Addr) (v : Value) : Prop where
  keep : ∀ b o, b ≠ x → h.get? b = some o → h'.get? b = some o
  obj : ∃ t1 : Addr, h'.get? x = some { cls := .ref C, dict := some dx, data := .fields #[.ref t1, .none, .none, .none, .bool false, .none] }
  dbig : h.objs.size ≤ dx
  dne : dx ≠ x
  ns : h'.Ns1 dx (fun y => if y = "name" then some v else none)
section
variable {prog : Program} {w : World} {A : Around} {R : Result → Shared → Prop} {s : Shared} {K : Frag} {mg : Str → Option Value} {n : Str} {C fI cc cda : Addr}
theorem err_init (T : Oor K mg prog n C fI cc cda) {base : Heap} {x t0 : Addr} {z : Str} {zt : Tok} (kb : K.In base) (gb : base.Ns mainGlobals mg) (bb : ∃ mb, base.Ns builtinsNs mb ∧ ∀ y : Str, y ≠ "__name__" → mb y = bootBuiltins y)
    (bk : ∀ b o, base.get? b = some o → s.heap.get? b = some o) (bsz : base.objs.size ≤ s.heap.objs.size) (nx : base.get? x = none) (lim : s.heap.NoLimit) (hx : s.heap.get? x = some (excO C t0)) (hz : z.length ≤ 1000) (room : A.depth < recursionLimit)
    (hq : ∀ h' tk dx zt', ErrEnd s.heap h' x C dx (.str z zt') → R (.ok (.ret .none)) { s with heap := h', toks := tk }) :
    codeAny (model prog w) A (.call (.ref fI) ⟨[.ref x, .str z zt], []⟩) R s := by
  obtain ⟨oc, od, q, doc, pm, an, ct, osl, tx, k0, p1, p2, q1, q2, q3, q4, q5, q6, q7, q8, q9, q10, q11, q12, q13, ho, hcd, htx, hln⟩ := T.fn
  obtain ⟨nm, qn, N0, bs, bm, sn, sub, ab, col, dd, e0, e1, e2, e3, e5, hC, hbm⟩ := T.cls
  have hcl : clsIn K C = some { name := nm, bases := bs, mro := .ref C :: bm, ns := N0, qualname := qn, hasDict := true, slotNames := sn, subclasses := sub, abstract := ab, collection := col, hasDel := false } := by unfold clsIn; rw [hC] <;> rfl
  obtain ⟨cl, cld, csl, hcell⟩ := T.cell
  obtain ⟨ccl, cdd, vs, ccs, file, tf, hcode, hvs, hfile⟩ := T.code
  obtain ⟨mb, hmb, hboot⟩ := bb
  have X : K.In s.heap := kb.keeps bk
  obtain ⟨hp, g, dr, tk, os⟩ := s
  refine ks_codeAny_call_defAt (fd := ksFn "__init__" q (eA p1 p2) (eB tx k0 q1 q2 q3 q4 q5 q6 q7 q8 q9 q10 q11 q12 q13) eS .none .none doc pm an (.ref cda) ct cc) (body := eB tx k0 q1 q2 q3 q4 q5 q6 q7 q8 q9 q10 q11 q12 q13) (binds := [("self", .ref x), ("name", .str z zt)])
    room (X _ _ ho) rfl lim (codeRec_of X hcd) rfl (BindsTo.of_eq (by first | rfl | with_unfolding_all rfl)) (show ∀ y ∈ eS.names, y.2 ≠ .cell from by decide +kernel) (show ∀ y ∈ [(("self" : Str), Value.ref x), (("name" : Str), Value.str z zt)], eS.names.lookup y.1 = some .local from locs rfl) (fun h₁ hns hk₁ => ?_) rfl rfl rfl
  have X₁ : K.In h₁ := X.keeps hk₁
  have hx₁ := hk₁ _ _ hx
  have hxL : x ≠ hp.objs.size := Nat.ne_of_lt (Heap.lt_size hx)
  have inG : ∀ b o, base.get? b = some o → (hp.hide x).get? b = some o := fun b o e => (Heap.hide_ne hp (fun z => by rw [z, nx] at e; cases e)).trans (bk b o e)
  have kG : K.In (hp.hide x) := kb.keeps inG
  have F₁ : Fr (hp.hide x) hp.objs.size h₁ _ := ⟨hns, fun b o e => hk₁ b o (Heap.of_hide e), Nat.le_of_eq (Heap.hide_size hp x)⟩
  have N₁ : News (hp.hide x) hp.objs.size h₁ [(x, excObj C t0 none .none)] := fun p hp' => by
    have e := List.mem_singleton.mp hp'
    subst e
    exact ⟨hx₁, hxL, Heap.hide_self hp x⟩
  refine ks_wpAt_execs_cons (ks_wpAt_Expr_any ?_)
  refine ks_wpAt_MethodCall (pl := (do return (← importBound _ _).getD true)) ?_ (he := by
    show (do
      let ov ← attributeBase _ _ _ _
      standAt q3.atName
      methodCall _ _ q3 q8 _ ov _ _ _) = _
    simp only [methodCall, methodCallPos, hln, Bool.or_true, if_true, pure_bind]
    rfl)
  refine ks_wpAt_super_base (f := fI) (cc := cda) (by first | rfl | decide +kernel) (by first | rfl | decide +kernel) (by decide +kernel) rfl (X₁ _ _ ho) rfl rfl rfl (X₁ _ _ hcode) rfl hvs hfile T.top ?_
  refine ks_loadName_global rfl (by first | rfl | decide +kernel) (loadGlobal_builtin (gb.keeps fun b o e => F₁.keep b o (inG b o e)) T.mgS (hmb.keeps fun b o e => F₁.keep b o (inG b o e)) ((hboot _ (by decide +kernel)).trans PyProof.Rows.Boot.«super») ⟨rfl, ?_⟩)
  refine wpAny_loadName_free rfl (by first | rfl | decide +kernel) rfl ⟨_, X₁ _ _ hcell, rfl⟩ ?_
  refine wpAny_loadName_local rfl (by first | rfl | decide +kernel) hns (show _ = some (Value.ref x) from by first | rfl | with_unfolding_all rfl | kernel_rfl) ?_
  refine ks_wpAny_isType_cls (X₁ _ _ hC) rfl ⟨rfl, ?_⟩
  refine ks_wpAny_call_super (X₁ _ _ hC) rfl hx₁ rfl (fun c e => nomatch e) (looks_mroIn X₁ T.me) (fun h₂ e₂ k₂ => ?_)
  obtain ⟨F₂, N₂, l₂⟩ := ks_newsPush (s := ⟨h₁, g, dr, tk + 2, os⟩) F₁ N₁ rfl e₂ k₂
  refine kxs_method kxs_ValueError F₂ kG N₂ (List.mem_cons_self ..) (InstAt.of_exc0 N₂ (List.mem_cons_of_mem _ (List.mem_cons_self ..))) T.op T.up T.veC (by decide +kernel) (fun u h₃ F₃ N₃ l₃ => ?_)
  refine kxs_callWith1 N₃ (List.mem_cons_self ..) ?_ (he := rfl) (hplain := rfl)
  show wpAny _ _ (spliced ((false, eval (.JoinedStr [.FormattedValue (.Name "name" q4) (-1) none q5, .Constant (.str tx) k0 q6] q7) (ksEnv q eS hp.objs.size fI (.ref cda) cc)) :: backTo q8 (starEach [] (ksEnv q eS hp.objs.size fI (.ref cda) cc)))) _ _ _
  refine Calls.spliced_cons (wpAny_JoinedStr ?_)
  have so_u : hp.objs.size ≠ x := Ne.symm hxL
  have ux : u ≠ x := fun z => by
    have := l₃ (x, excObj C t0 none .none) (List.mem_cons_of_mem _ (List.mem_cons_self ..))
    rw [z] at this
    exact absurd this (Nat.lt_irrefl _)
  have sx : h₁.objs.size ≠ x := fun z => by
    have := l₂ (x, excObj C t0 none .none) (List.mem_cons_self ..)
    rw [z] at this
    exact absurd this (Nat.lt_irrefl _)
  have U : UpdF x (excObj C t0 none .none) [(u, kxs_mw "ValueError.__init__" x), (h₁.objs.size, ks_superObj C x C), (x, excObj C t0 none .none)] (fun o' => (u, kxs_mw "ValueError.__init__" x) :: (h₁.objs.size, ks_superObj C x C) :: (x, o') :: []) :=
    .tail ux (.tail sx (.head (by simp)))
  show Joins _ _ _ (eval (.FormattedValue (.Name "name" q4) (-1) none q5) (ksEnv q eS hp.objs.size fI (.ref cda) cc) :: evalEach [.Constant (.str tx) k0 q6] (ksEnv q eS hp.objs.size fI (.ref cda) cc)) Str.empty _ _
  have hz2 : z.length ≤ sizeLine := Nat.le_trans hz (by decide)
  have len0 : (Str.empty ++ z).length ≤ sizeLine := by
    have e1 : (Str.empty : Str).length = 0 := rfl
    rw [Str.length_append, e1, sizeLine_eq]
    omega
  refine wpAny_FormattedValue_plain (ESX.ldL (v := .str z zt) F₃.ns (by first | rfl | with_unfolding_all rfl | kernel_rfl) ?_)
  refine wpAny_formatField_str ⟨_, _, rfl, len0, ?_⟩ ⟨_, _, rfl, len0, ?_⟩ hz2
  all_goals
    have e0 : evalEach [.Constant (.str tx) k0 q6] (ksEnv q eS hp.objs.size fI (.ref cda) cc) = [eval (.Constant (.str tx) k0 q6) (ksEnv q eS hp.objs.size fI (.ref cda) cc)] := by first | rfl | simp [evalEach]
    rw [e0]
    have len : (Str.empty ++ z ++ (tx : Str)).length ≤ sizeLine := by
      have e1 : (Str.empty : Str).length = 0 := rfl
      rw [Str.length_append, Str.length_append, e1, sizeLine_eq]
      have := htx
      omega
    refine wpAny_Constant_str ⟨_, _, rfl, len, ?_⟩
    refine ⟨len, Calls.spliced_nil ⟨kxs_at N₃ (List.mem_cons_self ..), ?_⟩⟩
    refine kxs_call F₃ kG N₃ PySem.F.excBase_ValueError T.made (List.mem_cons_self ..) U (by show 1 ≤ sizeLine; decide) (fun t1 h₄ F₄ N₄ l₄ => ?_)
    have hx₄ : h₄.get? x = some (excObj C t1 none .none) := (N₄ (x, excObj C t1 none .none) (by simp)).1
    have X₄ : K.In h₄ := kG.keeps F₄.keep
    refine wpAt_of_wpAny ?_
    refine wpAny_execs_cons (plainObj_wpAny_Assign_Attribute ?_)
    refine ESX.ldL (v := .str z zt) F₄.ns (by first | rfl | with_unfolding_all rfl | kernel_rfl) (ESX.ldL (v := .ref x) F₄.ns (by first | rfl | with_unfolding_all rfl | kernel_rfl) ?_)
    refine set_plain X₄ (ox := excO C t1) (od := none) ⟨hx₄, rfl, rfl, trivial⟩ T.sa ?_
    refine exc_osa X₄ hx₄ hcl (show refsVE (.ref C :: bm) = true from hbm) rfl T.noN (fun h₅ tk₅ dx k₅ dn dne hx₅ hn₅ => ?_)
    show wpAny _ _ (execs _ _) _ _ _
    refine wpAny_execs_nil (hq h₅ tk₅ dx zt ⟨fun b o hb e => k₅ b o hb (F₄.keep b o ((Heap.hide_ne hp hb).trans e)), ⟨t1, hx₅⟩, ?_, dne, hn₅⟩)
    refine Nat.le_trans ?_ dn
    obtain ⟨oL, es, ep, hL, _⟩ := F₄.ns
    exact Nat.le_of_lt (Heap.lt_size hL)
end
end LB

set_option maxRecDepth 100000
set_option maxHeartbeats 4000000
namespace LB
open PySem PySem.W PySem.Calls PyProof.Rows PySem.HandSPX
/-- a made error at e, its own dict at d -/
structure ErrMade (h h' : Heap) (e C d : Addr) (v : Value) : Prop where
  keep : ∀ b o, h.get? b = some o → h'.get? b = some o
  new : h.objs.size ≤ e
  obj : ∃ oe vs, h'.get? e = some oe ∧ oe.cls = .ref C ∧ oe.dict = some d ∧ oe.data = .fields vs ∧ vs[1]? = some .none
  dbig : h.objs.size ≤ d
  dne : d ≠ e
  ns : h'.Ns1 d (fun y => if y = "name" then some v else none)
section
variable {prog : Program} {w : World} {A : Around} {R : Result → Shared → Prop} {s : Shared} {K : Frag} {mg : Str → Option Value} {n : Str} {C fI cc cda : Addr}
theorem err_made (T : Oor K mg prog n C fI cc cda) {base : Heap} {z : Str} {zt : Tok} (kb : K.In base) (gb : base.Ns mainGlobals mg) (bb : ∃ mb, base.Ns builtinsNs mb ∧ ∀ y : Str, y ≠ "__name__" → mb y = bootBuiltins y)
    (bk : ∀ b o, base.get? b = some o → s.heap.get? b = some o) (bsz : base.objs.size ≤ s.heap.objs.size) (lim : s.heap.NoLimit) (hz : z.length ≤ 1000) (room : A.depth + 1 < recursionLimit)
    (hq : ∀ h' tk e d zt', ErrMade s.heap h' e C d (.str z zt') → R (.ok (.ret (.ref e))) { s with heap := h', toks := tk }) :
    codeAny (model prog w) A (.call (.ref C) ⟨[.str z zt], []⟩) R s := by
  obtain ⟨nm, q, N, bs, bm, sn, sub, ab, col, dd, k0, k1, k2, k3, k5, hC, hbm⟩ := T.cls
  obtain ⟨hp, g, dr, tk, os⟩ := s
  have X : K.In hp := kb.keeps bk
  have k : ∀ b o, hp.get? b = some o → ((hp.push (kdv_tup [.str z zt])).push (excO C hp.objs.size)).get? b = some o := fun b o e => Heap.get?_push_of_some _ (Heap.get?_push_of_some _ e)
  have hget : ((hp.push (kdv_tup [.str z zt])).push (excO C hp.objs.size)).get? (hp.objs.size + 1) = some (excO C hp.objs.size) := by heap_get
  have nx : base.get? (hp.objs.size + 1) = none := Heap.get?_none_of_le (Nat.le_trans bsz (Nat.le_succ _))
  refine call_own PySem.F.excBase_ValueError (fun Y => refsVE_contains Y bm hbm) (X _ _ hC) (looks_findIn X T.iC) (fun self => bind_fn X self T.tC) (by show 1 ≤ sizeLine; decide) ?_
  refine err_init (s := ⟨(hp.push (kdv_tup [.str z zt])).push (excO C hp.objs.size), g, dr, tk, os⟩) T kb gb bb (fun b o e => k b o (bk b o e)) (Nat.le_trans (show base.objs.size ≤ hp.objs.size from bsz) (by simp only [Heap.size_push]; omega)) nx (lim.keeps k) hget hz ?_ fun h' tk' dx zt' W => ?_
  · show A.depth + 1 < recursionLimit
    exact room
  · obtain ⟨t1, hx⟩ := W.obj
    have old : ∀ b o, hp.get? b = some o → h'.get? b = some o := fun b o e => W.keep b o (Nat.ne_of_lt (Nat.lt_succ_of_lt (Heap.lt_size e))) (k b o e)
    have dn : hp.objs.size ≤ dx := by
      have y := W.dbig
      simp only [Heap.size_push] at y
      omega
    exact ⟨rfl, hq h' tk' (hp.objs.size + 1) dx zt' ⟨old, Nat.le_succ _, ⟨_, _, hx, rfl, rfl, rfl, rfl⟩, dn, W.dne, W.ns⟩⟩
end
end LB
namespace LB
open PySem PySem.Spec PyProof.Rows L2
theorem relO_name {v : V} {v' : Value} (r : RelV v v') (f : Str) : RelO (List.lookup f [(("name" : Str), v)]) (if f = "name" then some v' else none) := by
  by_cases hw : f = "name"
  · subst hw
    rw [if_pos rfl]
    have q : List.lookup ("name" : Str) [(("name" : Str), v)] = some v := by simp [List.lookup]
    rw [q]
    exact r
  · rw [if_neg hw]
    have qw : (f == ("name" : Str)) = false := by simpa using hw
    have q2 : List.lookup f [(("name" : Str), v)] = none := by simp [List.lookup, qw]
    rw [q2]
    trivial
section
variable {X : Cx} {n : Str} {C fI cc cda : Addr}
/-- Err(e), e a text of at most 1000 signs -/
def tMkErr (C : Addr) (ta : TA) : L2.St → Hp → XK → Prop := fun σ H Q => ta σ H fun vs H1 => ∃ z : Str, vs = [.str z] ∧ z.length ≤ 1000 ∧ ∀ d, H1 d = none → Q (.ref C) (some d) (upd H1 d (.xd [(("name" : Str), .str z)]))
theorem pmk_err {a : Expr} {ta : TA} {p pos : Pos} {k : Nat} (T : Oor X.K X.mg X.prog n C fI cc cda) (hr : Room k X.A) (ha : PA X [a] ta) (hg : Gl X n) (hd : (n == ("__debug__" : Str)) = false)
    (he : starEach (a :: []) X.env = (false, eval a X.env) :: starEach [] X.env := by rfl) (hpl : (backTo pos (starEach [] X.env)).any (·.1) = false := by rfl) :
    PMk X (.Call (.Name n p) [a] [] pos) (tMkErr C ta) := by
  intro pins s σ H Q I h
  refine wpAny_Call_Name_kw (ld_glob I hg T.gC ?_ hd)
  refine PySem.W.callWith_K (h₀ := X.base) I.ok.mod.kin T.kC (thn (ha.run pos pins s σ H _ I h) fun us s1 hh => ?_) he hpl
  obtain ⟨vs, H1, I1, r1, z, ev, hz, q1⟩ := hh
  subst ev
  refine ⟨I1.kIn, ?_⟩
  cases r1 with
  | cons rv rn =>
    rename_i v' us'
    cases rn
    obtain ⟨zt, rfl⟩ := rv
    show wpAny _ _ (call (.ref C) [.str z zt]) _ _ _
    have hlim := I1.nolimit
    have kin := I1.ok.mod
    have bk := I1.bk
    have bsz : X.base.objs.size ≤ s1.heap.objs.size := Nat.le_trans I1.ok.bsz I1.sz
    obtain ⟨hp, g, dr, tk, os⟩ := s1
    obtain ⟨m1, m2, m3, m4⟩ := kin
    refine wpAny_call (err_made T m1 m2 m3 bk bsz hlim hz (by have := hr.dp; omega) fun h' tk' e d zt' M => ?_)
    show MkP X pins σ Q (.ref e) ⟨h', g, dr, tk', os⟩
    obtain ⟨oe, fv, hoe, hc, hd, hdat, h1⟩ := M.obj
    have hns := M.ns
    obtain ⟨G', g1, g2⟩ := restrict h' fun b => decide (b ≠ e)
    have gk : ∀ b, b ≠ e → G'.get? b = h'.get? b := fun b hb => g1 b (decide_eq_true hb)
    have ge : G'.get? e = none := g2 e (by simp)
    have old : ∀ b o, hp.get? b = some o → G'.get? b = some o := fun b o q => (gk b (Nat.ne_of_lt (Nat.lt_of_lt_of_le (Heap.lt_size q) M.new))).trans (M.keep b o q)
    have ob : ObjOk X.prog X.w (upd H1 d (.xd [(("name" : Str), .str z)])) G' d (.xd [(("name" : Str), .str z)]) :=
      ⟨_, hns.at (fun o q => (gk d M.dne).trans q), fun f => relO_name (v := .str z) (v' := .str z zt') ⟨zt', rfl⟩ f⟩
    have J : Inv X pins σ (upd H1 d (.xd [(("name" : Str), .str z)])) ⟨G', g, dr, tk', os⟩ := I1.laid (t' := tk') old M.dbig ob
    refine ⟨e, oe, fv, ⟨G', g, dr, tk', os⟩, _, .ref C, some d, rfl, J, fun b o q => ?_, ge, hoe, ⟨hc, hd⟩, hdat, h1, ?_, rfl, I1.bare, raises_own T.exC T.tyC, q1 d (I1.hok.fresh M.dbig)⟩
    · by_cases hb : b = e
      · have q' : G'.get? b = some o := q
        rw [hb, ge] at q'; cases q'
      · exact (gk b hb).symm.trans q
    · rw [upd_ne (Ne.symm M.dne)]
      exact I1.hok.fresh M.new
/-- raise Err(e) -/
def tRaiseErr (C : Addr) (W : WX) (ta : TA) : TS := fun _ σ H => tMkErr C ta σ H fun cls d H' => W cls d σ H'
theorem ps_raiseErr {a : Expr} {ta : TA} {W : WX} {p pos pos2 : Pos} {k : Nat} (hc : X.calm = true) (T : Oor X.K X.mg X.prog n C fI cc cda) (hr : Room k X.A) (tk : Takes X W) (ha : PA X [a] ta) (hg : Gl X n) (hd : (n == ("__debug__" : Str)) = false)
    (he : starEach (a :: []) X.env = (false, eval a X.env) :: starEach [] X.env := by rfl) (hpl : (backTo pos (starEach [] X.env)).any (·.1) = false := by rfl) :
    PS X (.Raise (some (.Call (.Name n p) [a] [] pos)) none pos2) (tRaiseErr C W ta) := ps_raise hc tk (pmk_err T hr ha hg hd he hpl)
/-- e.name, e the error that the suite holds (at a; its class cls, its dict d) -/
def tErrName (C : Addr) (a : Addr) (cls : Value) (d : Option Addr) (te : TE) : TE := fun σ H Q => te σ H fun x H1 => x = .ref a ∧ cls = .ref C ∧ ∃ (dd : Addr) (v : V), d = some dd ∧ H1 dd = some (.xd [(("name" : Str), v)]) ∧ Q v H1
theorem pe_errName {a : Addr} {oe : Obj} {cls : Value} {d : Option Addr} {pn : List (Addr × Obj)} {e : Expr} {te : TE} {pos : Pos} (T : Oor X.K X.mg X.prog n C fI cc cda) (hz : Zc cls d oe) (hf : ∃ vs, oe.data = .fields vs) (he : PE (X.suite a ((a, oe) :: pn)) e te)
    (hb : attributeBase e "name" X.env (eval e X.env) = eval e X.env := by rfl) :
    PE (X.suite a ((a, oe) :: pn)) (.Attribute e "name" pos) (tErrName C a cls d te) := by
  refine ⟨fun pins s σ H Q I h => ?_⟩
  refine attr_of hb (thn (he.run pins s σ H _ I h) fun u s1 hh => ?_)
  obtain ⟨x, H1, I1, rx, ex, ec, dd, v, ed, ea, q⟩ := hh
  subst ex
  obtain rfl : u = Value.ref a := rx
  subst ec
  subst ed
  obtain ⟨ha, _⟩ := I1.pin (a, oe) (List.mem_append_left _ List.mem_cons_self)
  obtain ⟨vs, hd⟩ := hf
  have hx : ObjOk X.prog X.w H1 s1.heap dd (.xd [(("name" : Str), v)]) := I1.hok dd _ ea
  obtain ⟨mA, hns, hr⟩ := hx
  obtain ⟨od, ho, hl⟩ := lookIn_ns hns
  have l : List.lookup ("name" : Str) [(("name" : Str), v)] = some v := by simp [List.lookup]
  obtain ⟨u, hu, ru⟩ := RelO.some_of (v := v) (o := mA "name") (by rw [← l]; exact hr "name")
  have J : PySem.W.InstAt s1.heap a oe C (some od) := ⟨ha, hz.1, by unfold PySem.W.notCls; rw [hd] <;> rfl, by rw [hz.2]; exact ho⟩
  exact HandSPX.exc_get I1.kIn J T.ga T.gg T.exC (PySem.W.findObj_own T.hdC T.noN rfl (by rw [hl, hu])) (handed_of ru) ⟨v, H1, I1.tok _, ru, q⟩
/-- isinstance(e, D), e such an error, D a class: told of K -/
structure IsF (K : PySem.W.Frag) (C : Addr) : Prop where
  ha : PySem.W.findIn K (.ref C) "__class__" = some (some (.builtin "object.__class__"))
  hn : PySem.W.specialIn K (.builtin "object.__class__") "__get__" = some (some (.builtin "getset_descriptor.__get__"))
  ht : PySem.W.takesIn K (.builtin "object.__class__") = some true
  hm : PySem.W.mroIn K C (.type "object") = some true
def rIsErr (K : PySem.W.Frag) (C a : Addr) (cls : Value) (d : Option Addr) : List V → Hp → VK → Prop := fun xs H Q => ∃ (D dd : Addr) (b : Bool) (fs : List (Str × V)), xs = [.ref a, .ref D] ∧ cls = .ref C ∧ d = some dd ∧ PySem.W.kitOne K (.ref C) (.ref D) = some b ∧ H dd = some (.xd fs) ∧ Q (.bl b) H
theorem call_isErr {a : Addr} {cls : Value} {d : Option Addr} {oe : Obj} {pn : List (Addr × Obj)} (T : Oor X.K X.mg X.prog n C fI cc cda) (F : IsF X.K C) (hz : Zc cls d oe) (hf : ∃ vs, oe.data = .fields vs) : CallR (X.suite a ((a, oe) :: pn)) (.builtin "isinstance") (rIsErr X.K C a cls d) := by
  intro pins s σ H xs us Q I r h
  obtain ⟨D, dd, b, fs, rfl, rfl, rfl, e, ea, q⟩ := h
  match us, r with
  | _, .cons rx (.cons rt .nil) =>
    cases rx
    cases rt
    obtain ⟨hget, _⟩ := I.pin (a, oe) (List.mem_append.mpr (.inl List.mem_cons_self))
    obtain ⟨vs, hv⟩ := hf
    have hx : ObjOk X.prog X.w H s.heap dd (.xd fs) := I.hok dd _ ea
    obtain ⟨mA, hns, hr⟩ := hx
    obtain ⟨od, ho, hl⟩ := lookIn_ns hns
    have J : PySem.W.InstAt s.heap a oe C (some od) := ⟨hget, hz.1, by unfold PySem.W.notCls; rw [hv] <;> rfl, by rw [hz.2]; exact ho⟩
    obtain ⟨cd, hcd, _⟩ := PySem.W.any_some T.hdC
    exact PySem.W.kia_one (PySem.W.kitx_exc (od := some od) (ox := oe) (by rw [hcd]; rfl) T.ga T.gg T.exC F.ha F.hn F.ht F.hm) I.kIn J e (fun z => nomatch z) fun tk => ⟨.bl b, H, I.kept (t' := tk) fun _ _ z => z, rfl, q⟩
end
end LB

set_option maxRecDepth 100000
set_option maxHeartbeats 2000000
namespace LB
open PySem PySem.Spec PyProof.Rows L2
/-! ### enumerate(a tuple) -/
theorem wp_if {α : Type} {M : Model} {A : Around} {E : Value → Shared → Prop} {s : Shared} {c : Prop} [Decidable c] {t u : Sem α} {Q : α → Shared → Prop} (h1 : c → wpAny M A t Q E s) (h2 : ¬ c → wpAny M A u Q E s) : wpAny M A (if c then t else u) Q E s := by
  split
  · exact h1 ‹_›
  · exact h2 ‹_›
theorem meets_enum_tup (a : Addr) (items : Array Value) : Meets (Builtin.«enumerate.__new__» { pos := [Value.type "enumerate", Value.ref a] }) fun x R s =>
    s.heap.IsTuple a items ∧ R (.ok (.ret (.ref (s.heap.push { cls := .type "tuple_iterator", data := .fields #[.ref a, .int 0 0] }).objs.size)))
      { s with heap := (s.heap.push { cls := .type "tuple_iterator", data := .fields #[.ref a, .int 0 0] }).push { cls := .type "enumerate", data := .fields #[.none, .bool false, .ref s.heap.objs.size, rawInt 0, .none, .none] } } := by
  refine Meets.of_wp fun prog w A R s h => ?_
  obtain ⟨ht, h⟩ := h
  have hsub := sub_enumerate
  unfold Builtin.«enumerate.__new__»
  refine wpAny_bind (wpAny_bind (wpAny_pure (wpAny_ite_false rfl (wpAny_bind (wpAny_of_eq hsub (wpAny_ite_false rfl (wpAny_pure (wpAny_ite_true rfl (wpAny_bind (wpAny_bind (wpAny_stack_any fun st => wpAny_pure ?_)))))))))))
  refine wp_if (fun _ => wpAny_bind ?_) (fun _ => wpAny_bind ?_)
  · refine wpAny_pure (wpAny_bind (wpAny_pyIter_tuple ht (wpAny_bind ?_)))
    show wpAny _ _ (newObj (.type "enumerate") (.fields #[.none, .bool false, .ref s.heap.objs.size, rawInt 0, .none, .none])) _ _ _
    exact wpAny_newObj_type (hd := by show 6 ≤ sizeLine + 2; decide) (wpAny_pure ⟨_, rfl, h⟩)
  · refine wpAny_pure (a := (Value.ref a, none)) (wpAny_bind (wpAny_pyIter_tuple ht (wpAny_bind ?_)))
    show wpAny _ _ (newObj (.type "enumerate") (.fields #[.none, .bool false, .ref s.heap.objs.size, rawInt 0, .none, .none])) _ _ _
    exact wpAny_newObj_type (hd := by show 6 ≤ sizeLine + 2; decide) (wpAny_pure ⟨_, rfl, h⟩)
theorem call_enum_tup {prog : Program} {w : World} {A : Around} {E : Value → Shared → Prop} {s : Shared} {a : Addr} {items : Array Value} {Q : Value → Shared → Prop} (ht : s.heap.IsTuple a items)
    (h : ∀ h' : Heap, IsEnum h' (s.heap.objs.size + 1) s.heap.objs.size 0 .none → h'.IsTupleIter s.heap.objs.size a 0 → h'.objs.size = s.heap.objs.size + 2 → (∀ (b : Addr) (o : Obj), s.heap.get? b = some o → h'.get? b = some o) →
      Q (.ref (s.heap.objs.size + 1)) { s with heap := h' }) : wpAny (model prog w) A (call (.type "enumerate") [.ref a]) Q E s := by
  refine callType_new F.called_enumerate (by decide) (F.typeCall_enumerate_1 _) (F.newCall_enumerate_1 _) (fun obj => F.args_object_init_2 obj _) F.entry_enumerate_new (meets_enum_tup a items) ⟨ht, ?_⟩
  have hz := Heap.size_push s.heap { cls := .type "tuple_iterator", data := .fields #[.ref a, .int 0 0] }
  show Shared.TypeIs _ (.ref _) "enumerate" ∧ Q (.ref _) _
  rw [hz]
  have he := Heap.get?_push_size (s.heap.push { cls := .type "tuple_iterator", data := .fields #[.ref a, .int 0 0] }) (o := { cls := .type "enumerate", data := .fields #[.none, .bool false, .ref s.heap.objs.size, rawInt 0, .none, .none] }) rfl
  rw [hz] at he
  refine ⟨⟨_, he, rfl⟩, h _ he ?_ ?_ ?_⟩
  · exact ⟨_, Heap.get?_push_of_some _ (Heap.get?_push_size _ rfl), rfl, rfl⟩
  · rw [Heap.size_push, hz]
  · exact fun b o hb => Heap.get?_push_of_some _ (Heap.get?_push_of_some _ hb)
def IteT (K : PySem.W.Frag) (a : Addr) : It :=
  { go := fun i H => ∃ xs x, SqT K H a xs ∧ xs[i]? = some x
    yld := fun i H v H' => ∃ T x, v = .ref T ∧ H T = none ∧ H' = upd H T (.tup [.int (i : Nat), x]) ∧ ∀ xs : List V, SqT K H a xs → xs[i]? = some x
    stop := fun i H => ∃ xs, SqT K H a xs ∧ xs.length = i }
theorem turn_enumT {P : Program} {w : World} {K : PySem.W.Frag} {elts : List PySem.Expr} {kk : Nat} {tpos : Pos} (a e it : Addr) :
    Turn P w K (.Tuple elts kk tpos) (IteT K a) [e, it] e fun i h => (∃ old, IsEnum h e it (i : Nat) old) ∧ h.IsTupleIter it a i ∧ e ≠ it := by
  constructor
  · simp
  · rintro i h ⟨⟨old, he⟩, ⟨o, hi, hc, hd⟩, ne⟩ b hb
    rcases List.mem_cons.mp hb with rfl | hb
    · exact ⟨_, he, fun v => by intro z; cases z⟩
    · rw [List.mem_singleton.mp hb]
      exact ⟨o, hi, fun v => by rw [hd]; intro z; cases z⟩
  · rintro i h h' ⟨⟨old, he⟩, ⟨o, hi, hc, hd⟩, ne⟩ k
    exact ⟨⟨old, k e (by simp) _ he⟩, ⟨o, k it (by simp) _ hi, hc, hd⟩, ne⟩
  · rintro X rfl rfl rfl hc i pins s σ H E I fp ⟨⟨old, he⟩, hi, ne⟩ ⟨xs, x, sq, hx⟩
    obtain ⟨its, rv, ht, _⟩ := I.tuple sq
    have hn : i < its.toArray.size := by
      have h1 := rv.length
      have h2 := (List.getElem?_eq_some_iff.mp hx).1
      simp
      omega
    have ae : a ≠ e := fun z => by
      obtain ⟨o, h1, h2, _⟩ := ht
      rw [z, he] at h1
      cases h1
      have h2 : (Value.type "enumerate") = .type "tuple" := h2
      injection h2 with h2
      exact absurd h2 (by decide)
    have ai : a ≠ it := fun z => by
      obtain ⟨o, h1, h2, _⟩ := ht
      obtain ⟨o', h3, h4, _⟩ := hi
      rw [z, h3] at h1
      cases h1
      rw [h2] at h4
      injection h4 with h4
      exact absurd h4 (by decide)
    have G := GoesN.enumFrom (elts := elts) (x1 := kk) (pos := tpos) 0 (Draws.tuple (prog := X.prog) (w := X.w) (A := X.A.in1) (I.ok.hd hc) it a ai its.toArray) e ne (by simp [ne, Ne.symm ae]) (by simp)
    refine G.goes i s _ E hn ⟨⟨old, by rw [Int.zero_add]; exact he⟩, hi, ht⟩ fun v h' tk hY hS hk ht' => ?_
    obtain ⟨T, t, u, rfl, hT, hu, tT⟩ := hY
    obtain ⟨⟨old', he'⟩, hi', _⟩ := hS
    have hu' : its[i]? = some u := by simpa using hu
    obtain ⟨u2, hu2, ru⟩ := paired_get rv hx
    cases hu'.symm.trans hu2
    have lt : ∀ {b : Addr} {o : Obj}, s.heap.get? b = some o → b ≠ T := fun hb z => by
      have h1 := Heap.lt_size hb
      rw [z] at h1
      exact absurd (Nat.lt_of_lt_of_le h1 hT) (Nat.lt_irrefl _)
    obtain ⟨oi, hoi, _, _⟩ := hi
    refine ⟨.ref T, upd H T (.tup [.int (i : Nat), x]), I.turnedNew (ch := [e, it]) hk fp hT ⟨(by show 2 ≤ sizeLine; decide), [Value.int (0 + (i : Nat)) t, u], .cons ⟨t, by rw [Int.zero_add]⟩ (.cons ru .nil), tT⟩, rfl, ⟨T, x, rfl, ?_, rfl, ?_⟩, ⟨⟨old', ?_⟩, hi', ne⟩, ?_⟩
    · cases q : H T with
      | none => rfl
      | some o => exact absurd (Nat.lt_of_lt_of_le (ObjOk.lt (I.hok T o q)) hT) (Nat.lt_irrefl _)
    · intro ys sy
      rw [I.tuple_inj sy sq]
      exact hx
    · rw [Int.zero_add] at he'
      exact he'
    · intro b hb
      rw [upd_ne ?_]
      · exact (fp b hb).1
      · rcases List.mem_cons.mp hb with rfl | hb
        · exact lt he
        · rw [List.mem_singleton.mp hb]
          exact lt hoi
  · rintro X rfl rfl rfl hc i pins s σ H E I fp ⟨⟨old, he⟩, hi, ne⟩ ⟨xs, sq, hl⟩
    obtain ⟨its, rv, ht, _⟩ := I.tuple sq
    have hn : its.toArray.size = i := by
      have h1 := rv.length
      simp
      omega
    have ae : a ≠ e := fun z => by
      obtain ⟨o, h1, h2, _⟩ := ht
      rw [z, he] at h1
      cases h1
      have h2 : (Value.type "enumerate") = .type "tuple" := h2
      injection h2 with h2
      exact absurd h2 (by decide)
    have ai : a ≠ it := fun z => by
      obtain ⟨o, h1, h2, _⟩ := ht
      obtain ⟨o', h3, h4, _⟩ := hi
      rw [z, h3] at h1
      cases h1
      rw [h2] at h4
      injection h4 with h4
      exact absurd h4 (by decide)
    have G := GoesN.enumFrom (elts := elts) (x1 := kk) (pos := tpos) 0 (Draws.tuple (prog := X.prog) (w := X.w) (A := X.A.in1) (I.ok.hd hc) it a ai its.toArray) e ne (by simp [ne, Ne.symm ae]) (by simp)
    refine G.stops s (fun s1 => Inv X pins σ H s1) E ⟨⟨old, by rw [Int.zero_add, hn]; exact he⟩, by rw [hn]; exact hi, ht⟩ fun h' tk hk _ => ?_
    exact I.turnedL (ch := [e, it]) hk fp
  · rintro A i s Q E ⟨⟨old, he⟩, _, _⟩ q
    exact wpAny_pyIter_enum he q
theorem walk_enumT {K : PySem.W.Frag} {a : Addr} {xs : List V} : Walk (IteT K a) xs.length (fun H => SqT K H a xs) (YPair (fun i => some (.int (i : Nat))) fun i => xs[i]?) :=
  { goes := fun i H hi g => ⟨xs, xs[i], g, List.getElem?_eq_getElem hi⟩
    stops := fun H g => ⟨xs, g, rfl⟩
    yields := fun i H x H' hi g ⟨T, y, e, n, e2, h⟩ => ⟨T, _, y, e, n, e2, rfl, h xs g⟩ }
def iEnumT (K : PySem.W.Frag) (ta : TA) : TI := fun σ H R => ta σ H fun vs H1 => ∃ a xs, vs = [V.ref a] ∧ SqT K H1 a xs ∧ R (IteT K a) H1
theorem pi_enumT {X : Cx} {e : PySem.Expr} {ta : TA} {p pos tpos : Pos} {elts : List PySem.Expr} {kk : Nat} (hg : Gl X "enumerate") (hm : X.mg "enumerate" = none) (ha : PA X [e] ta) (hs : starEach [e] X.env = [(false, eval e X.env)] := by rfl) :
    PI X (.Tuple elts kk tpos) (.Call (.Name "enumerate" p) [e] [] pos) (iEnumT X.K ta) := by
  constructor
  intro pins s σ H R I h
  refine Call_ (ld_blt I hg hm boot_enumerate (PyProof.Rows.callWith_type1 (thn (ha.run pos pins s σ H _ I h) ?_) hs))
  rintro us s1 ⟨vs, H1, I1, r1, a, xs, rfl, sq, q⟩
  rw [Vals.ref1 r1]
  obtain ⟨its, rv, ht, _⟩ := I1.tuple sq
  refine call_enum_tup ht fun h' he hi hz hk => ?_
  refine wpAny_pyIter_enum (s := { s1 with heap := h' }) he ?_
  refine ⟨_, [s1.heap.objs.size + 1, s1.heap.objs.size], _, _, H1, rfl, ?_, turn_enumT a (s1.heap.objs.size + 1) s1.heap.objs.size, ⟨⟨_, he⟩, hi, by simp⟩, ?_, q⟩
  · exact I1.kept hk
  · intro b hb
    have hb : s1.heap.objs.size ≤ b := by
      rcases List.mem_cons.mp hb with rfl | hb
      · exact Nat.le_succ _
      · rw [List.mem_singleton.mp hb]
        exact Nat.le_refl _
    refine I1.fpOk hb ?_
    cases q : H1 b with
    | none => rfl
    | some o => exact absurd (Nat.lt_of_lt_of_le (ObjOk.lt (I1.hok b o q)) hb) (Nat.lt_irrefl _)
end LB

set_option maxRecDepth 100000
set_option maxHeartbeats 2000000
namespace LB
/-! ### plans as trees -/
inductive Pk where
  | all | race | any | sequence
  deriving DecidableEq
inductive Kd where
  | plain (k : Pk) | pool (n : Int) | timeout (t : Int) | orelse | retry (r d : Int)
  deriving DecidableEq
/-- a node: its parts' indexes ps, in order -/
inductive Nd where
  | job (d : Int) (g : Bool) (v c : Int) (f : Option Int)
  | whole (k : Kd) (ps : List Int)
  deriving DecidableEq
inductive Pl where
  | job (d : Int) (g : Bool) (v c : Int) (f : Option Int)
  | node (k : Kd) (ps : List Pl)
def times : Kd → Int
  | .retry r _ => r + 1
  | _ => 1
def maxI (l : List Int) : Int := l.foldl max 0
mutual
def Pl.size : Pl → Nat
  | .job .. => 1
  | .node _ ps => Pl.sizeL ps + 1
def Pl.sizeL : List Pl → Nat
  | [] => 0
  | p :: r => p.size + Pl.sizeL r
end
mutual
def Pl.depth : Pl → Int
  | .job .. => 1
  | .node _ ps => 1 + maxI (Pl.depthL ps)
def Pl.depthL : List Pl → List Int
  | [] => []
  | p :: r => p.depth :: Pl.depthL r
end
mutual
def Pl.runs : Pl → Int
  | .job .. => 1
  | .node k ps => times k * (Pl.runsL ps).sum
def Pl.runsL : List Pl → List Int
  | [] => []
  | p :: r => p.runs :: Pl.runsL r
end
mutual
def Pl.clean : Pl → Int
  | .job _ _ _ c _ => c
  | .node _ ps => maxI (Pl.cleanL ps)
def Pl.cleanL : List Pl → List Int
  | [] => []
  | p :: r => p.clean :: Pl.cleanL r
end
theorem depthL_map : ∀ ps : List Pl, Pl.depthL ps = ps.map Pl.depth
  | [] => by rw [Pl.depthL]; rfl
  | p :: r => by rw [Pl.depthL, depthL_map r]; rfl
theorem runsL_map : ∀ ps : List Pl, Pl.runsL ps = ps.map Pl.runs
  | [] => by rw [Pl.runsL]; rfl
  | p :: r => by rw [Pl.runsL, runsL_map r]; rfl
theorem cleanL_map : ∀ ps : List Pl, Pl.cleanL ps = ps.map Pl.clean
  | [] => by rw [Pl.cleanL]; rfl
  | p :: r => by rw [Pl.cleanL, cleanL_map r]; rfl
theorem size_pos (p : Pl) : 0 < p.size := by
  cases p <;> simp [Pl.size]
/-- the indexes of the last nodes of the trees, the first tree's first node at o -/
def roots (o : Nat) : List Pl → List Int
  | [] => []
  | p :: r => ((o + p.size - 1 : Nat) : Int) :: roots (o + p.size) r
mutual
def Pl.flat (o : Nat) : Pl → List Nd
  | .job d g v c f => [.job d g v c f]
  | .node k ps => Pl.flatL o ps ++ [.whole k (roots o ps)]
def Pl.flatL (o : Nat) : List Pl → List Nd
  | [] => []
  | p :: r => p.flat o ++ Pl.flatL (o + p.size) r
end
mutual
theorem flat_length (o : Nat) : ∀ p : Pl, (p.flat o).length = p.size
  | .job .. => by simp [Pl.flat, Pl.size]
  | .node k ps => by
    have h := flatL_length o ps
    simp [Pl.flat, Pl.size, h]
theorem flatL_length (o : Nat) : ∀ ps : List Pl, (Pl.flatL o ps).length = Pl.sizeL ps
  | [] => by simp [Pl.flatL, Pl.sizeL]
  | p :: r => by
    have h := flat_length o p
    have h2 := flatL_length (o + p.size) r
    simp [Pl.flatL, Pl.sizeL, h, h2]
end
theorem sizeL_app : ∀ A B : List Pl, Pl.sizeL (A ++ B) = Pl.sizeL A + Pl.sizeL B
  | [], B => by simp [Pl.sizeL]
  | p :: r, B => by
    have h := sizeL_app r B
    simp only [List.cons_append, Pl.sizeL]
    omega
theorem flatL_app : ∀ (A B : List Pl) (o : Nat), Pl.flatL o (A ++ B) = Pl.flatL o A ++ Pl.flatL (o + Pl.sizeL A) B
  | [], B, o => by simp [Pl.flatL, Pl.sizeL]
  | p :: r, B, o => by
    have h := flatL_app r B (o + p.size)
    have e : o + p.size + Pl.sizeL r = o + (p.size + Pl.sizeL r) := by omega
    simp only [List.cons_append, Pl.flatL, Pl.sizeL, h, e, List.append_assoc]
theorem roots_app : ∀ (A B : List Pl) (o : Nat), roots o (A ++ B) = roots o A ++ roots (o + Pl.sizeL A) B
  | [], B, o => by simp [roots, Pl.sizeL]
  | p :: r, B, o => by
    have h := roots_app r B (o + p.size)
    have e : o + p.size + Pl.sizeL r = o + (p.size + Pl.sizeL r) := by omega
    simp only [List.cons_append, roots, Pl.sizeL, h, e]
theorem roots_length : ∀ (A : List Pl) (o : Nat), (roots o A).length = A.length
  | [], o => rfl
  | p :: r, o => by simp [roots, roots_length r]
theorem sizeL_one (p : Pl) : Pl.sizeL [p] = p.size := by simp [Pl.sizeL]
theorem flatL_one (o : Nat) (p : Pl) : Pl.flatL o [p] = p.flat o := by simp [Pl.flatL]
/-- a whole out of the last trees: one node more -/
theorem flatL_join (A B : List Pl) (k : Kd) : Pl.flatL 0 (A ++ [Pl.node k B]) = Pl.flatL 0 (A ++ B) ++ [Nd.whole k (roots (Pl.sizeL A) B)] := by
  rw [flatL_app, flatL_app, flatL_one, Pl.flat, Nat.zero_add, List.append_assoc]
theorem roots_join (A B : List Pl) (k : Kd) : roots 0 (A ++ [Pl.node k B]) = roots 0 A ++ [((Pl.sizeL (A ++ B) : Nat) : Int)] := by
  rw [roots_app, sizeL_app]
  show _ ++ [((0 + Pl.sizeL A + (Pl.node k B).size - 1 : Nat) : Int)] = _
  rw [show 0 + Pl.sizeL A + (Pl.node k B).size - 1 = Pl.sizeL A + Pl.sizeL B by rw [Pl.size]; omega]
/-! ### bounds -/
def KdOk : Kd → Nat → Prop
  | .plain _, n => 1 ≤ n ∧ n ≤ 6
  | .pool m, n => 1 ≤ n ∧ n ≤ 6 ∧ 1 ≤ m ∧ m ≤ 6
  | .timeout t, n => n = 1 ∧ 0 ≤ t ∧ t ≤ 1000
  | .orelse, n => n = 2
  | .retry r d, n => n = 1 ∧ 0 ≤ r ∧ r ≤ 5 ∧ 0 ≤ d ∧ d ≤ 100
def JobOk (d v c : Int) (f : Option Int) : Prop := (0 ≤ d ∧ d ≤ 1000) ∧ (0 ≤ v ∧ v ≤ 999) ∧ (0 ≤ c ∧ c ≤ 100) ∧ ∀ x, f = some x → 0 ≤ x ∧ x ≤ 999
inductive OkP : Pl → Prop where
  | job {d : Int} {g : Bool} {v c : Int} {f : Option Int} (h : JobOk d v c f) : OkP (.job d g v c f)
  | node {k : Kd} {ps : List Pl} (hk : KdOk k ps.length) (h : ∀ p ∈ ps, OkP p) : OkP (.node k ps)
/-! ### the greatest of some -/
theorem foldl_max_le {l : List Int} : ∀ {a m : Int}, a ≤ m → (∀ x ∈ l, x ≤ m) → l.foldl max a ≤ m := by
  induction l with
  | nil => intro a m h _; exact h
  | cons x r ih =>
    intro a m h hx
    exact ih (Int.max_le.mpr ⟨h, hx x (List.mem_cons_self ..)⟩) fun y hy => hx y (List.mem_cons_of_mem _ hy)
theorem le_foldl_max {l : List Int} : ∀ {a : Int}, a ≤ l.foldl max a ∧ ∀ x ∈ l, x ≤ l.foldl max a := by
  induction l with
  | nil => intro a; exact ⟨Int.le_refl _, by simp⟩
  | cons x r ih =>
    intro a
    obtain ⟨h1, h2⟩ := ih (a := max a x)
    refine ⟨Int.le_trans (Int.le_max_left ..) h1, fun y hy => ?_⟩
    rcases List.mem_cons.mp hy with e | hy
    · rw [e]; exact Int.le_trans (Int.le_max_right ..) h1
    · exact h2 y hy
theorem maxI_le {l : List Int} {m : Int} (h : 0 ≤ m) (hx : ∀ x ∈ l, x ≤ m) : maxI l ≤ m := foldl_max_le h hx
theorem le_maxI {l : List Int} {x : Int} (h : x ∈ l) : x ≤ maxI l := le_foldl_max.2 x h
theorem maxI_nn (l : List Int) : 0 ≤ maxI l := le_foldl_max.1
theorem maxI_mem {l : List Int} (hl : l ≠ []) (hn : ∀ x ∈ l, 0 ≤ x) : maxI l ∈ l := by
  have key : ∀ (l : List Int) (a : Int), l.foldl max a = a ∨ l.foldl max a ∈ l := by
    intro l
    induction l with
    | nil => intro a; exact .inl rfl
    | cons x r ih =>
      intro a
      rcases ih (max a x) with h | h
      · show r.foldl max (max a x) = a ∨ _
        rw [h]
        by_cases c : a ≤ x
        · exact .inr (by show r.foldl max (max a x) ∈ x :: r; rw [h, Int.max_eq_right c]; exact List.mem_cons_self ..)
        · exact .inl (Int.max_eq_left (by omega))
      · exact .inr (List.mem_cons_of_mem _ h)
  rcases key l 0 with h | h
  · cases l with
    | nil => exact absurd rfl hl
    | cons x r =>
      have h1 : x ≤ maxI (x :: r) := le_maxI (List.mem_cons_self ..)
      have h2 := hn x (List.mem_cons_self ..)
      have h3 : maxI (x :: r) = 0 := h
      have : x = 0 := by omega
      rw [h3, ← this]
      exact List.mem_cons_self ..
  · exact h
/-- the greatest, told by what it is -/
theorem maxI_eq {l : List Int} {m : Int} (hm : m ∈ l) (hx : ∀ x ∈ l, x ≤ m) (h0 : 0 ≤ m) : maxI l = m := Int.le_antisymm (maxI_le h0 hx) (le_maxI hm)
theorem maxI_app (l r : List Int) : maxI (l ++ r) = max (maxI l) (maxI r) := by
  apply Int.le_antisymm
  · refine maxI_le (Int.le_trans (maxI_nn l) (Int.le_max_left ..)) fun x hx => ?_
    rcases List.mem_append.mp hx with h | h
    · exact Int.le_trans (le_maxI h) (Int.le_max_left ..)
    · exact Int.le_trans (le_maxI h) (Int.le_max_right ..)
  · refine Int.max_le.mpr ⟨maxI_le (maxI_nn _) fun x hx => le_maxI (List.mem_append_left _ hx), maxI_le (maxI_nn _) fun x hx => le_maxI (List.mem_append_right _ hx)⟩
theorem maxI_one {x : Int} (h : 0 ≤ x) : maxI [x] = x := Int.max_eq_right h
/-! ### sizes by the nodes' row -/
structure Row where
  deep : Int
  runs : Int
  clean : Int
def rowN (rs : List Row) (i : Int) : Row := rs.getD i.toNat ⟨0, 0, 0⟩
def rowAt (rs : List Row) : Nd → Row
  | .job _ _ _ c _ => ⟨1, 1, c⟩
  | .whole k ps => ⟨1 + maxI (ps.map fun i => (rowN rs i).deep), times k * (ps.map fun i => (rowN rs i).runs).sum, maxI (ps.map fun i => (rowN rs i).clean)⟩
def rowsOn (rs : List Row) (ns : List Nd) : List Row := ns.foldl (fun rs n => rs ++ [rowAt rs n]) rs
def Pl.row (p : Pl) : Row := ⟨p.depth, p.runs, p.clean⟩
mutual
def Pl.rows : Pl → List Row
  | .job d g v c f => [Pl.row (.job d g v c f)]
  | .node k ps => Pl.rowsL ps ++ [Pl.row (.node k ps)]
def Pl.rowsL : List Pl → List Row
  | [] => []
  | p :: r => p.rows ++ Pl.rowsL r
end
mutual
theorem rows_length : ∀ p : Pl, p.rows.length = p.size
  | .job .. => by simp [Pl.rows, Pl.size]
  | .node k ps => by have h := rowsL_length ps; simp [Pl.rows, Pl.size, h]
theorem rowsL_length : ∀ ps : List Pl, (Pl.rowsL ps).length = Pl.sizeL ps
  | [] => by simp [Pl.rowsL, Pl.sizeL]
  | p :: r => by have h := rows_length p; have h2 := rowsL_length r; simp [Pl.rowsL, Pl.sizeL, h, h2]
end
theorem rows_last (p : Pl) : p.rows[p.size - 1]? = some p.row := by
  cases p with
  | job d g v c f => simp [Pl.rows, Pl.size]
  | node k ps =>
    have h := rowsL_length ps
    rw [Pl.rows, Pl.size, List.getElem?_append_right (by omega)]
    simp [h]
theorem roots_rows : ∀ (ps : List Pl) (rs : List Row) (o : Nat) (tl : List Row), rs.length = o → (roots o ps).map (rowN (rs ++ Pl.rowsL ps ++ tl)) = ps.map Pl.row
  | [], rs, o, tl, h => rfl
  | p :: r, rs, o, tl, h => by
    have hp := size_pos p
    have ih := roots_rows r (rs ++ p.rows) (o + p.size) tl (by rw [List.length_append, rows_length, h])
    have e1 : rs ++ Pl.rowsL (p :: r) ++ tl = rs ++ p.rows ++ Pl.rowsL r ++ tl := by rw [Pl.rowsL]; simp [List.append_assoc]
    rw [e1]
    show rowN _ _ :: (roots (o + p.size) r).map _ = _
    rw [ih]
    refine congrArg (· :: r.map Pl.row) ?_
    unfold rowN
    rw [Int.toNat_natCast, List.getD_eq_getElem?_getD]
    have e2 : (rs ++ p.rows ++ Pl.rowsL r ++ tl)[o + p.size - 1]? = some p.row := by
      rw [List.append_assoc, List.append_assoc, List.getElem?_append_right (by omega), List.getElem?_append_left (by rw [rows_length]; omega)]
      rw [show o + p.size - 1 - rs.length = p.size - 1 by omega]
      exact rows_last p
    rw [e2] <;> rfl
theorem rowsOn_app (rs : List Row) (a b : List Nd) : rowsOn rs (a ++ b) = rowsOn (rowsOn rs a) b := by
  unfold rowsOn
  rw [List.foldl_append]
mutual
theorem rowsOn_flat : ∀ (p : Pl) (rs : List Row) (o : Nat), rs.length = o → rowsOn rs (p.flat o) = rs ++ p.rows
  | .job d g v c f, rs, o, h => by simp [Pl.flat, Pl.rows, rowsOn, rowAt, Pl.row, Pl.depth, Pl.runs, Pl.clean]
  | .node k ps, rs, o, h => by
    have ih := rowsOn_flatL ps rs o h
    rw [Pl.flat, rowsOn_app, ih, Pl.rows, ← List.append_assoc]
    show rs ++ Pl.rowsL ps ++ [rowAt (rs ++ Pl.rowsL ps) (.whole k (roots o ps))] = _
    refine congrArg (fun x => rs ++ Pl.rowsL ps ++ [x]) ?_
    have e := roots_rows ps rs o [] h
    rw [List.append_nil] at e
    have m : ∀ f : Row → Int, (roots o ps).map (fun i => f (rowN (rs ++ Pl.rowsL ps) i)) = ps.map fun p => f p.row := fun f => by
      have e2 := congrArg (List.map f) e
      rw [List.map_map, List.map_map] at e2
      exact e2
    show (⟨_, _, _⟩ : Row) = ⟨_, _, _⟩
    rw [m Row.deep, m Row.runs, m Row.clean, Pl.depth, Pl.runs, Pl.clean, depthL_map, runsL_map, cleanL_map]
    all_goals rfl
theorem rowsOn_flatL : ∀ (ps : List Pl) (rs : List Row) (o : Nat), rs.length = o → rowsOn rs (Pl.flatL o ps) = rs ++ Pl.rowsL ps
  | [], rs, o, h => by simp [Pl.flatL, Pl.rowsL, rowsOn]
  | p :: r, rs, o, h => by
    have h1 := rowsOn_flat p rs o h
    have h2 := rowsOn_flatL r (rs ++ p.rows) (o + p.size) (by rw [List.length_append, rows_length, h])
    rw [Pl.flatL, rowsOn_app, h1, h2, Pl.rowsL, List.append_assoc]
end
/-! ### the jobs' cleanups -/
def Nd.clean? : Nd → Option Int
  | .job _ _ _ c _ => some c
  | .whole .. => none
def cleans (ns : List Nd) : List Int := ns.filterMap Nd.clean?
mutual
theorem clean_flat : ∀ (p : Pl) (o : Nat), OkP p → p.clean = maxI (cleans (p.flat o)) ∧ 0 ≤ p.clean
  | .job d g v c f, o, h => by
    cases h with
    | job h =>
      have h0 := h.2.2.1.1
      refine ⟨?_, by rw [Pl.clean]; exact h0⟩
      rw [Pl.clean, Pl.flat]
      show c = maxI [c]
      rw [maxI_one h0]
  | .node k ps, o, h => by
    cases h with
    | node hk h =>
      have e := clean_flatL ps o h
      refine ⟨?_, by rw [Pl.clean]; exact maxI_nn _⟩
      rw [Pl.clean, Pl.flat, e]
      show _ = maxI (List.filterMap Nd.clean? (Pl.flatL o ps ++ [Nd.whole k (roots o ps)]))
      rw [List.filterMap_append]
      show maxI (cleans (Pl.flatL o ps)) = maxI (cleans (Pl.flatL o ps) ++ [])
      rw [List.append_nil]
theorem clean_flatL : ∀ (ps : List Pl) (o : Nat), (∀ p ∈ ps, OkP p) → maxI (Pl.cleanL ps) = maxI (cleans (Pl.flatL o ps))
  | [], o, h => by simp [Pl.cleanL, Pl.flatL, cleans]
  | p :: r, o, h => by
    obtain ⟨h1, h0⟩ := clean_flat p o (h p (List.mem_cons_self ..))
    have h2 := clean_flatL r (o + p.size) fun q hq => h q (List.mem_cons_of_mem _ hq)
    rw [Pl.cleanL, Pl.flatL]
    show maxI ([p.clean] ++ Pl.cleanL r) = maxI (List.filterMap Nd.clean? (p.flat o ++ Pl.flatL (o + p.size) r))
    rw [maxI_app, maxI_one h0, List.filterMap_append, h1]
    show max _ (maxI (Pl.cleanL r)) = maxI (cleans (p.flat o) ++ cleans (Pl.flatL (o + p.size) r))
    rw [maxI_app, h2]
end
end LB

set_option maxRecDepth 100000
set_option maxHeartbeats 2000000
namespace LB
open PySem PySem.Spec PyProof.Rows L2
def top (i : Nat) : Stmt := PySem.Challenge.pw_asforetold_k03_plans_are_one_tree.main.body.getD i (.Pass ⟨0, 0, 0, 0⟩)
abbrev sParts : Stmt := top 11
abbrev sCheckP : Stmt := top 12
abbrev sIsPlan : Stmt := top 13
abbrev sIsNode : Stmt := top 14
abbrev sIsNum : Stmt := top 15
abbrev sIsFault : Stmt := top 16
abbrev sAreParts : Stmt := top 17
abbrev sOrder : Stmt := top 18
abbrev sDepths : Stmt := top 19
abbrev sJobRuns : Stmt := top 20
abbrev sTimes : Stmt := top 21
abbrev sCell : Stmt := top 23
abbrev sDigits : Stmt := top 24
abbrev sDraw : Stmt := top 25
abbrev sJob : Stmt := top 26
abbrev sWhole : Stmt := top 27
abbrev sPlan : Stmt := top 28
abbrev sLParts : Stmt := top 29
abbrev sLSizes : Stmt := top 30
abbrev sLBounds : Stmt := top 31
abbrev sLGood : Stmt := top 32
abbrev sLNumber : Stmt := top 33
abbrev sLLong : Stmt := top 34
abbrev sLSpoil : Stmt := top 35
abbrev sLRefused : Stmt := top 36
abbrev sLaw : Stmt := top 37
end LB

set_option maxRecDepth 100000
set_option maxHeartbeats 4000000
namespace LB
open PySem PySem.Spec PyProof.Rows L2
/-! ### the helpers of a law -/
/-- built-ins' names that the module leaves free -/
structure Names (mg : Str → Option Value) : Prop where
  len : mg "len" = none
  range : mg "range" = none
  int : mg "int" = none
  repr : mg "repr" = none
section
variable {P : Program} {w : World} {K : PySem.W.Frag} {mg : Str → Option Value} {base : Heap}
/-- some int comes back -/
def spCellL (K : PySem.W.Frag) : Sp := fun vs H Q _ => ∃ (a : Addr) (ns : List Int) (k : Int), vs = [.ref a, .int k] ∧ SqL K H a (ns.map V.int) ∧ 0 ≤ k ∧ ∀ c : Int, Q (.int c) H
theorem scCell : FnScope ["script", "k"] ["script", "k"] (defScope sCell) := ⟨rfl, rfl, rfl, by decide +kernel, rfl, by decide +kernel, by decide +kernel⟩
theorem ok_cell {f : Addr} {fd : FuncData} (F : Fun K "_law_cell" "_law_cell" sCell f fd) (M : Names mg) : FnOk P w K mg base CX0 1 f fd ["script", "k"] (spCellL K) := by
  refine F.ok scCell (fun vs H Q E h => ?_) (fun cdv A outer s H vs Q E hr h => ?_)
  · obtain ⟨a, ns, k, rfl, _⟩ := h
    rfl
  · obtain ⟨a, ns, k, rfl, hS, h0, q⟩ := h
    refine ⟨_, (pss_cons (ps_if (pt_cmpR op_lt (pv 1) (pe_callB call_len_seq (by rfl) M.len PySem.boot_len (pa_cons (pv 0) pa_nil)) (nomark _)) (pss_one (ps_ret (pe_ix ix_list (pv 0) (pv 1) (fun _ _ => rfl)))) pss_nil)
        (pss_one (ps_ret pe_int))), ?_⟩
    refine ⟨_, rfl, _, rfl, a, _, rfl, .inl hS, _, _, rfl, rfl, _, rfl, ?_⟩
    refine ite2 (fun c => ?_) (fun c => q 0)
    have lt := of_decide_eq_true c
    rw [List.length_map] at lt
    obtain ⟨j, rfl⟩ : ∃ j : Nat, k = (j : Int) := ⟨k.toNat, by omega⟩
    have hj : j < ns.length := by omega
    exact ⟨_, rfl, _, rfl, a, _, _, _, rfl, rfl, hS, atI_nat (v := V.int ns[j]) (by rw [List.getElem?_map, List.getElem?_eq_getElem hj]; rfl), q _⟩
/-- a number of three digits at most -/
def Dig (i : Int) : Prop := 0 ≤ i ∧ i < 1000
/-- a new list of at most 63 * 60 such numbers -/
def spDigits (K : PySem.W.Frag) : Sp := fun vs H Q _ => ∃ (a : Addr) (ns : List Int) (i j : Int), vs = [.ref a, .int i, .int j] ∧ SqL K H a (ns.map V.int) ∧ 0 ≤ i ∧ i ≤ j ∧ j ≤ 63 ∧
  ∀ (ds : List Int) (H' : Hp) (p : Addr), Same H H' → H p = none → H' p = some (.lst (ds.map V.int)) → (∀ d ∈ ds, Dig d) → ds.length ≤ 3780 → Q (.ref p) H'
theorem scDigits : FnScope ["script", "first", "last", "digits", "k", "cell", "turn", "seed"] ["script", "first", "last"] (defScope sDigits) := ⟨rfl, rfl, rfl, by decide +kernel, rfl, by decide +kernel, by decide +kernel⟩
theorem same_upd {H H' : Hp} {p : Addr} {o : HO} (e : Same H H') (n : H p = none) : Same H (upd H' p o) := fun b u q => by
  rw [upd_ne (ne_of_none q n)]
  exact e b u q
theorem dig_more {c : Int} {ds : List Int} (h : ∀ d ∈ ds, Dig d) : ∀ d ∈ ds ++ [c % 1000], Dig d := by
  intro d hd
  rcases List.mem_append.mp hd with h1 | h1
  · exact h d h1
  · rw [List.mem_singleton.mp h1]
    exact ⟨Int.emod_nonneg _ (by decide), Int.emod_lt_of_pos _ (by decide)⟩
theorem lst_more {ds : List Int} {c : Int} : HO.lst (ds.map V.int ++ [V.int c]) = HO.lst ((ds ++ [c]).map V.int) := by rw [List.map_append] <;> rfl
theorem small_line {n : Nat} (h : n ≤ 4000) : n < sizeLine := Nat.lt_of_le_of_lt h (by decide)
theorem ok_digits {f fC : Addr} {fd fdC : FuncData} (F : Fun K "_law_digits" "_law_digits" sDigits f fd) (M : Names mg) (FC : Fun K "_law_cell" "_law_cell" sCell fC fdC) (mCell : mg "_law_cell" = some (.ref fC)) (bCell : Binds K fdC ["script", "k"] []) :
    FnOk P w K mg base CX0 2 f fd ["script", "first", "last"] (spDigits K) := by
  have GCell : FnOk P w K mg base CX0 1 fC fdC ["script", "k"] (spCellL K) := ok_cell FC M
  have kCell := FC.kp
  refine F.ok scDigits (fun vs H Q E h => ?_) (fun cdv A outer s H vs Q E hr h => ?_)
  · obtain ⟨a, ns, i, j, rfl, _⟩ := h
    rfl
  · obtain ⟨a, ns, i, j, rfl, hS, h0, hij, hj, q⟩ := h
    have nd := scDigits.nd
    refine ⟨_, (pss_cons (ps_set (i := 3) nd rfl (Or.inl rfl) (pe_lst pa_nil))
        (pss_cons (ps_for PassesOwn.never rfl (pi_range2 (by rfl) M.range (pa_cons (pv 1) (pa_cons (pv 2) pa_nil))) (pg_name (i := 4) nd rfl (Or.inl rfl)) (pss_cons (ps_set (i := 5) nd rfl (Or.inl rfl) (pe_call GCell (hr.mono (by decide)) rfl mCell kCell bCell .nil pass0 (pa_cons (pv 0) (pa_cons (pv 4) pa_nil))))
        (pss_cons (ps_if (pt_cmpR op_lt (pv 5) pe_int (nomark _)) (pss_one (ps_set (i := 5) nd rfl (Or.inl rfl) (pe_op op_sub pe_int (pe_op op_mul pe_int (pv 5))))) pss_nil)
        (pss_one (ps_if (pt_cmpR op_ge (pv 5) pe_int (nomark _)) (pss_one (ps_for PassesOwn.never rfl (pi_range1 (by rfl) M.range (pa_cons pe_int pa_nil)) (pg_name (i := 6) nd rfl (Or.inl rfl)) (pss_one (ps_if (pt_cmpR op_gt (pv 5) pe_int (nomark _)) (pss_cons (ps_expr (pe_bm PySem.F.plainAttrs_list PySem.F.slot_list_append PySem.F.type_list_append mt_append (pv 3) (pa_cons (pe_op op_mod (pe_callTy call_int1 (by rfl) M.int (by decide +kernel) (pa_cons (pv 5) pa_nil)) pe_int) pa_nil)))
        (pss_one (ps_set (i := 5) nd rfl (Or.inl rfl) (pe_op op_fdiv (pv 5) pe_int)))) pss_nil)))) (pss_cons (ps_set (i := 7) nd rfl (Or.inl rfl) (pe_op op_mod (pe_callTy call_int1 (by rfl) M.int (by decide +kernel) (pa_cons (pe_op op_add (pe_op op_add (pe_op op_mul (pv 5) pe_int) (pe_op op_mul (pv 4) pe_int)) pe_int) pa_nil)) pe_int))
        (pss_one (ps_for PassesOwn.never rfl (pi_range1 (by rfl) M.range (pa_cons pe_int pa_nil)) (pg_name (i := 6) nd rfl (Or.inl rfl)) (pss_cons (ps_set (i := 7) nd rfl (Or.inl rfl) (pe_op op_mod (pe_callTy call_int1 (by rfl) M.int (by decide +kernel) (pa_cons (pe_op op_add (pe_op op_add (pe_op op_mul (pv 7) pe_int) (pe_op op_mul pe_int (pv 6))) pe_int) pa_nil)) pe_int))
        (pss_one (ps_expr (pe_bm PySem.F.plainAttrs_list PySem.F.slot_list_append PySem.F.type_list_append mt_append (pv 3) (pa_cons (pe_op op_mod (pe_callTy call_int1 (by rfl) M.int (by decide +kernel) (pa_cons (pe_op op_fdiv (pv 7) pe_int) pa_nil)) pe_int) pa_nil)))))))))))))
        (pss_one (ps_ret (pv 3))))), ?_⟩
    refine ⟨(by show 0 ≤ sizeLine; decide), fun p hp => ?_⟩
    refine ⟨_, rfl, _, rfl, i, j, rfl, ⟨by omega, by omega, by omega, by omega⟩, ?_⟩
    refine for_range (lo := i) (n := (j - i).toNat) (fun m σ H' => ∃ (ds : List Int) (v4 v5 v6 v7 : Option V), σ = [some (.ref a), some (.int i), some (.int j), some (.ref p), v4, v5, v6, v7] ∧ Same H H' ∧ H' p = some (.lst (ds.map V.int)) ∧ (∀ d ∈ ds, Dig d) ∧ ds.length ≤ 60 * m)
      ⟨[], none, none, none, none, rfl, same_upd (Same.refl H) hp, upd_same, by simp, by simp⟩ ?_ ?_
    · rintro m σ H' hm ⟨ds, v4, v5, v6, v7, rfl, sm, hl, hd, hlen⟩
      refine ⟨_, rfl, _, rfl, a, ns, _, rfl, sm.seq hS, by omega, fun c => ?_⟩
      refine ⟨_, rfl, _, _, rfl, rfl, _, rfl, ?_⟩
      refine ite2 (fun _ => ?_) (fun _ => ?_)
      · refine ⟨_, rfl, _, _, rfl, rfl, .inl ⟨by decide, by decide⟩, _, _, rfl, rfl, ?_⟩
        generalize (1 : Int) - 2 * c = c'
        (refine ⟨_, rfl, _, _, rfl, rfl, _, rfl, ?_⟩
         refine ite2 (fun _ => ?_) (fun _ => ?_)
         · refine ⟨60, rfl, by decide, by decide, for_range (n := 60) (fun t σ H2 => ∃ (ds : List Int) (c : Int) (v6 : Option V), σ = [some (.ref a), some (.int i), some (.int j), some (.ref p), some (.int (i + m)), some (.int c), v6, v7] ∧ Same H H2 ∧ H2 p = some (.lst (ds.map V.int)) ∧ (∀ d ∈ ds, Dig d) ∧ ds.length ≤ 60 * m + t)
             ⟨ds, _, v6, rfl, sm, hl, hd, by omega⟩ ?_ ?_⟩
           · rintro t σ H2 ht ⟨ds, c, v6, rfl, sm, hl, hd, hlen⟩
             refine ⟨_, rfl, _, _, rfl, rfl, _, rfl, ?_⟩
             refine ite2 (fun _ => ?_) (fun _ => ?_)
             · refine ⟨_, rfl, .inl ⟨rfl, _, SqL.of hl⟩, _, rfl, .inl ⟨_, rfl, _, _, rfl, rfl, (by show (0 : Int) < 1000; decide), p, _, _, rfl, rfl, hl, (by rw [List.length_map]; exact small_line (by omega)), ?_⟩⟩
               refine ⟨_, rfl, _, _, rfl, rfl, ⟨by decide, by decide⟩, ?_⟩
               exact ⟨ds ++ [c % 1000], _, _, rfl, same_upd sm hp, upd_same.trans (congrArg some lst_more), dig_more hd, by rw [List.length_append, List.length_singleton]; omega⟩
             · exact ⟨ds, _, _, rfl, sm, hl, hd, by omega⟩
           · rintro σ H2 ⟨ds, c, v6, rfl, sm, hl, hd, hlen⟩
             exact ⟨ds, _, _, _, _, rfl, sm, hl, hd, by omega⟩
         · refine ⟨_, rfl, _, _, rfl, rfl, .inr ⟨by decide, by decide⟩, _, rfl, _, _, rfl, rfl, .inr ⟨by decide, by decide⟩, _, _, rfl, rfl, _, _, rfl, rfl, .inl ⟨_, rfl, _, _, rfl, rfl, (by show (0 : Int) < 2147483399; decide), ?_⟩⟩
           refine ⟨12, rfl, by decide, by decide, for_range (n := 12) (fun t σ H2 => ∃ (ds : List Int) (c : Int) (v6 : Option V) (s7 : Int), σ = [some (.ref a), some (.int i), some (.int j), some (.ref p), some (.int (i + m)), some (.int c), v6, some (.int s7)] ∧ Same H H2 ∧ H2 p = some (.lst (ds.map V.int)) ∧ (∀ d ∈ ds, Dig d) ∧ ds.length ≤ 60 * m + t)
             ⟨ds, _, v6, _, rfl, sm, hl, hd, by omega⟩ ?_ ?_⟩
           · rintro t σ H2 ht ⟨ds, c, v6, s7, rfl, sm, hl, hd, hlen⟩
             refine ⟨_, rfl, _, _, rfl, rfl, .inr ⟨by decide, by decide⟩, _, rfl, _, _, rfl, rfl, .inl ⟨by decide, by decide⟩, _, _, rfl, rfl, _, _, rfl, rfl, .inl ⟨_, rfl, _, _, rfl, rfl, (by show (0 : Int) < 2147483563; decide), ?_⟩⟩
             refine ⟨_, rfl, .inl ⟨rfl, _, SqL.of hl⟩, _, rfl, _, _, rfl, rfl, ⟨by decide, by decide⟩, .inl ⟨_, rfl, _, _, rfl, rfl, (by show (0 : Int) < 1000; decide), p, _, _, rfl, rfl, hl, (by rw [List.length_map]; exact small_line (by omega)), ?_⟩⟩
             exact ⟨ds ++ [_ % 1000], _, _, _, rfl, same_upd sm hp, upd_same.trans (congrArg some lst_more), dig_more hd, by rw [List.length_append, List.length_singleton]; omega⟩
           · rintro σ H2 ⟨ds, c, v6, s7, rfl, sm, hl, hd, hlen⟩
             exact ⟨ds, _, _, _, _, rfl, sm, hl, hd, by omega⟩)
      · (refine ⟨_, rfl, _, _, rfl, rfl, _, rfl, ?_⟩
         refine ite2 (fun _ => ?_) (fun _ => ?_)
         · refine ⟨60, rfl, by decide, by decide, for_range (n := 60) (fun t σ H2 => ∃ (ds : List Int) (c : Int) (v6 : Option V), σ = [some (.ref a), some (.int i), some (.int j), some (.ref p), some (.int (i + m)), some (.int c), v6, v7] ∧ Same H H2 ∧ H2 p = some (.lst (ds.map V.int)) ∧ (∀ d ∈ ds, Dig d) ∧ ds.length ≤ 60 * m + t)
             ⟨ds, _, v6, rfl, sm, hl, hd, by omega⟩ ?_ ?_⟩
           · rintro t σ H2 ht ⟨ds, c, v6, rfl, sm, hl, hd, hlen⟩
             refine ⟨_, rfl, _, _, rfl, rfl, _, rfl, ?_⟩
             refine ite2 (fun _ => ?_) (fun _ => ?_)
             · refine ⟨_, rfl, .inl ⟨rfl, _, SqL.of hl⟩, _, rfl, .inl ⟨_, rfl, _, _, rfl, rfl, (by show (0 : Int) < 1000; decide), p, _, _, rfl, rfl, hl, (by rw [List.length_map]; exact small_line (by omega)), ?_⟩⟩
               refine ⟨_, rfl, _, _, rfl, rfl, ⟨by decide, by decide⟩, ?_⟩
               exact ⟨ds ++ [c % 1000], _, _, rfl, same_upd sm hp, upd_same.trans (congrArg some lst_more), dig_more hd, by rw [List.length_append, List.length_singleton]; omega⟩
             · exact ⟨ds, _, _, rfl, sm, hl, hd, by omega⟩
           · rintro σ H2 ⟨ds, c, v6, rfl, sm, hl, hd, hlen⟩
             exact ⟨ds, _, _, _, _, rfl, sm, hl, hd, by omega⟩
         · refine ⟨_, rfl, _, _, rfl, rfl, .inr ⟨by decide, by decide⟩, _, rfl, _, _, rfl, rfl, .inr ⟨by decide, by decide⟩, _, _, rfl, rfl, _, _, rfl, rfl, .inl ⟨_, rfl, _, _, rfl, rfl, (by show (0 : Int) < 2147483399; decide), ?_⟩⟩
           refine ⟨12, rfl, by decide, by decide, for_range (n := 12) (fun t σ H2 => ∃ (ds : List Int) (c : Int) (v6 : Option V) (s7 : Int), σ = [some (.ref a), some (.int i), some (.int j), some (.ref p), some (.int (i + m)), some (.int c), v6, some (.int s7)] ∧ Same H H2 ∧ H2 p = some (.lst (ds.map V.int)) ∧ (∀ d ∈ ds, Dig d) ∧ ds.length ≤ 60 * m + t)
             ⟨ds, _, v6, _, rfl, sm, hl, hd, by omega⟩ ?_ ?_⟩
           · rintro t σ H2 ht ⟨ds, c, v6, s7, rfl, sm, hl, hd, hlen⟩
             refine ⟨_, rfl, _, _, rfl, rfl, .inr ⟨by decide, by decide⟩, _, rfl, _, _, rfl, rfl, .inl ⟨by decide, by decide⟩, _, _, rfl, rfl, _, _, rfl, rfl, .inl ⟨_, rfl, _, _, rfl, rfl, (by show (0 : Int) < 2147483563; decide), ?_⟩⟩
             refine ⟨_, rfl, .inl ⟨rfl, _, SqL.of hl⟩, _, rfl, _, _, rfl, rfl, ⟨by decide, by decide⟩, .inl ⟨_, rfl, _, _, rfl, rfl, (by show (0 : Int) < 1000; decide), p, _, _, rfl, rfl, hl, (by rw [List.length_map]; exact small_line (by omega)), ?_⟩⟩
             exact ⟨ds ++ [_ % 1000], _, _, _, rfl, same_upd sm hp, upd_same.trans (congrArg some lst_more), dig_more hd, by rw [List.length_append, List.length_singleton]; omega⟩
           · rintro σ H2 ⟨ds, c, v6, s7, rfl, sm, hl, hd, hlen⟩
             exact ⟨ds, _, _, _, _, rfl, sm, hl, hd, by omega⟩)
    · rintro σ H' ⟨ds, v4, v5, v6, v7, rfl, sm, hl, hd, hlen⟩
      exact ⟨_, rfl, q ds H' p sm hp hl hd (by omega)⟩
end
end LB

set_option maxRecDepth 100000
set_option maxHeartbeats 4000000
namespace LB
open PySem PySem.Spec PyProof.Rows L2
/-! ### the box of draws -/
/-- at b: a list of the digits' list and of a place -/
def Box (H : Hp) (b : Addr) : Prop := ∃ (l : Addr) (ds : List Int) (n : Int), H b = some (.lst [.ref l, .int n]) ∧ H l = some (.lst (ds.map V.int)) ∧ b ≠ l ∧ 0 ≤ n ∧ ds.length ≤ 3780
/-- all stands but what is at b, and the list of the digits is the same one -/
structure But (b : Addr) (H H' : Hp) : Prop where
  k : ∀ a o, a ≠ b → H a = some o → H' a = some o
  d : ∀ l n, H b = some (.lst [.ref l, .int n]) → ∃ n' : Int, H' b = some (.lst [.ref l, .int n'])
theorem But.refl (b : Addr) (H : Hp) : But b H H := ⟨fun _ _ _ q => q, fun l n h => ⟨n, h⟩⟩
theorem But.trans {b : Addr} {H H1 H2 : Hp} (x : But b H H1) (y : But b H1 H2) : But b H H2 := ⟨fun a o n q => y.k a o n (x.k a o n q), fun l n h => let ⟨n', h'⟩ := x.d l n h; y.d l n' h'⟩
theorem But.of {b : Addr} {H H' : Hp} (e : Same H H') : But b H H' := ⟨fun a o _ q => e a o q, fun l n h => ⟨n, e _ _ h⟩⟩
theorem But.new {b : Addr} {H H' : Hp} {p : Addr} {o : HO} (x : But b H H') (n : H' p = none) : But b H (upd H' p o) :=
  ⟨fun a u na q => by
    have q' := x.k a u na q
    rw [upd_ne (ne_of_none q' n)]
    exact q', fun l m h => by
    obtain ⟨n', h'⟩ := x.d l m h
    exact ⟨n', by rw [upd_ne (ne_of_none h' n)]; exact h'⟩⟩
theorem But.seqT {K : PySem.W.Frag} {b : Addr} {H H' : Hp} {a : Addr} {xs : List V} (x : But b H H') (ne : ∀ ys, H b ≠ some (.tup ys)) (nf : ∀ o u, H b ≠ some (.frz o u)) (h : SqT K H a xs) : SqT K H' a xs := by
  rcases h with (h | ⟨o, h⟩) | h
  · exact .inl (.inl (x.k a _ (fun z => ne _ (z ▸ h)) h))
  · exact .inl (.inr ⟨o, x.k a _ (fun z => nf _ _ (z ▸ h)) h⟩)
  · exact .inr h
theorem Box.ne {H : Hp} {b : Addr} (B : Box H b) : (∀ ys, H b ≠ some (.tup ys)) ∧ ∀ o u, H b ≠ some (.frz o u) := by
  obtain ⟨l, ds, n, h, _⟩ := B
  rw [h]
  exact ⟨fun ys z => (by cases z), fun o u z => (by cases z)⟩
theorem Box.tup {K : PySem.W.Frag} {b : Addr} {H H' : Hp} {a : Addr} {xs : List V} (B : Box H b) (x : But b H H') (h : SqT K H a xs) : SqT K H' a xs := x.seqT B.ne.1 B.ne.2 h
theorem Box.new {H : Hp} {b p : Addr} {o : HO} (B : Box H b) (n : H p = none) : Box (upd H p o) b := by
  obtain ⟨l, ds, k, h, hl, r⟩ := B
  exact ⟨l, ds, k, by rw [upd_ne (ne_of_none h n)]; exact h, by rw [upd_ne (ne_of_none hl n)]; exact hl, r⟩
section
variable {P : Program} {w : World} {K : PySem.W.Frag} {mg : Str → Option Value} {base : Heap}
def spDraw (K : PySem.W.Frag) : Sp := fun vs H Q _ => ∃ (b : Addr) (m : Int), vs = [.ref b, .int m] ∧ Box H b ∧ 0 < m ∧ ∀ (r : Int) (H' : Hp), 0 ≤ r → r < m → Box H' b → But b H H' → Q (.int r) H'
theorem scDraw : FnScope ["box", "many", "at"] ["box", "many"] (defScope sDraw) := ⟨rfl, rfl, rfl, by decide +kernel, rfl, by decide +kernel, by decide +kernel⟩
theorem ok_draw {f : Addr} {fd : FuncData} (F : Fun K "_law_draw" "_law_draw" sDraw f fd) (M : Names mg) : FnOk P w K mg base CX0 1 f fd ["box", "many"] (spDraw K) := by
  refine F.ok scDraw (fun vs H Q E h => ?_) (fun cdv A outer s H vs Q E hr h => ?_)
  · obtain ⟨b, m, rfl, _⟩ := h
    rfl
  · obtain ⟨b, m, rfl, ⟨l, ds, n, hb, hl, ne, h0, hlen⟩, hm, q⟩ := h
    have nd := scDraw.nd
    refine ⟨_, (pss_cons (ps_set (i := 2) nd rfl (Or.inl rfl) (pe_ix ix_list (pv 0) pe_int (fun _ _ => rfl)))
        (pss_cons (ps_asg (pe_op op_add (pv 2) pe_int) (pg_sub (pv 0) pe_int set_list))
        (pss_cons (ps_if (pt_cmpR op_lt (pv 2) (pe_callB call_len_seq (by rfl) M.len PySem.boot_len (pa_cons (pe_ix ix_list (pv 0) pe_int (fun _ _ => rfl)) pa_nil)) (nomark _)) (pss_one (ps_ret (pe_op op_mod (pe_callTy call_int1 (by rfl) M.int (by decide +kernel) (pa_cons (pe_ix ix_list (pe_ix ix_list (pv 0) pe_int (fun _ _ => rfl)) (pv 2) (fun _ _ => rfl)) pa_nil)) (pv 1)))) pss_nil)
        (pss_one (ps_ret (pe_op op_mod (pe_callTy call_int1 (by rfl) M.int (by decide +kernel) (pa_cons (pe_op op_add (pe_op op_mul (pv 2) pe_int) pe_int) pa_nil)) (pv 1))))))), ?_⟩
    refine ⟨_, rfl, b, _, _, _, rfl, rfl, SqL.of hb, rfl, ?_⟩
    refine ⟨_, rfl, _, _, rfl, rfl, _, rfl, b, _, _, 1, rfl, rfl, hb, rfl, ?_⟩
    have hb' : upd H b (.lst [.ref l, .int (n + 1)]) b = some (.lst [.ref l, .int (n + 1)]) := upd_same
    have hl' : upd H b (.lst [.ref l, .int (n + 1)]) l = some (.lst (ds.map V.int)) := by rw [upd_ne ne.symm]; exact hl
    have B : Box (upd H b (.lst [.ref l, .int (n + 1)])) b := ⟨l, ds, n + 1, hb', hl', ne, by omega, hlen⟩
    have U : But b H (upd H b (.lst [.ref l, .int (n + 1)])) := ⟨fun a o na z => by rw [upd_ne na]; exact z, fun l' n' z => by
      rw [hb] at z
      cases z
      exact ⟨n + 1, hb'⟩⟩
    refine ⟨_, rfl, _, rfl, b, _, _, _, rfl, rfl, SqL.of hb', rfl, l, _, rfl, .inl (SqL.of hl'), _, _, rfl, rfl, _, rfl, ?_⟩
    refine ite2 (fun c => ?_) (fun c => ?_)
    · have lt := of_decide_eq_true c
      rw [List.length_map] at lt
      obtain ⟨j, rfl⟩ : ∃ j : Nat, n = (j : Int) := ⟨n.toNat, by omega⟩
      have hj : j < ds.length := by omega
      refine ⟨_, rfl, b, _, _, _, rfl, rfl, SqL.of hb', rfl, _, rfl, l, _, _, _, rfl, rfl, SqL.of hl', atI_nat (v := V.int ds[j]) (by rw [List.getElem?_map, List.getElem?_eq_getElem hj]; rfl), .inl ⟨_, rfl, _, rfl, _, _, rfl, rfl, hm, ?_⟩⟩
      exact q _ _ (Int.emod_nonneg _ (by omega)) (Int.emod_lt_of_pos _ hm) B U
    · refine ⟨_, rfl, _, _, rfl, rfl, .inr ⟨by decide, by decide⟩, _, _, rfl, rfl, .inl ⟨_, rfl, _, rfl, _, _, rfl, rfl, hm, ?_⟩⟩
      exact q _ _ (Int.emod_nonneg _ (by omega)) (Int.emod_lt_of_pos _ hm) B U
end
end LB

set_option maxRecDepth 100000
set_option maxHeartbeats 4000000
namespace LB
open PySem PySem.Spec PyProof.Rows L2
/-! ### tuples stay -/
structure Tp (H H' : Hp) : Prop where
  tup : ∀ a xs, H a = some (.tup xs) → H' a = some (.tup xs)
  frz : ∀ a o u, H a = some (.frz o u) → H' a = some (.frz o u)
theorem Tp.refl (H : Hp) : Tp H H := ⟨fun _ _ z => z, fun _ _ _ z => z⟩
theorem Tp.trans {H H1 H2 : Hp} (x : Tp H H1) (y : Tp H1 H2) : Tp H H2 := ⟨fun a xs z => y.tup a xs (x.tup a xs z), fun a o u z => y.frz a o u (x.frz a o u z)⟩
theorem Tp.same {H H' : Hp} (e : Same H H') : Tp H H' := ⟨fun a xs z => e _ _ z, fun a o u z => e _ _ z⟩
theorem Tp.but {b : Addr} {H H' : Hp} (B : Box H b) (e : But b H H') : Tp H H' :=
  ⟨fun a xs z => e.k a _ (fun y => B.ne.1 xs (y ▸ z)) z, fun a o u z => e.k a _ (fun y => B.ne.2 o u (y ▸ z)) z⟩
theorem Tp.lst {H : Hp} {l : Addr} {xs : List V} {o : HO} (h : H l = some (.lst xs)) : Tp H (upd H l o) :=
  ⟨fun a ys z => by rw [upd_ne (ne_of z h (by intro y; cases y))]; exact z, fun a p u z => by rw [upd_ne (ne_of z h (by intro y; cases y))]; exact z⟩
theorem Tp.seq {K : PySem.W.Frag} {H H' : Hp} {a : Addr} {xs : List V} (x : Tp H H') (h : SqT K H a xs) : SqT K H' a xs := by
  rcases h with (h | ⟨o, h⟩) | h
  · exact .inl (.inl (x.tup _ _ h))
  · exact .inl (.inr ⟨o, x.frz _ _ _ h⟩)
  · exact .inr h
/-! ### nodes as values -/
def optV : Option Int → V
  | none => .non
  | some x => .int x
def Pk.word : Pk → Str
  | .all => "all"
  | .race => "race"
  | .any => "any"
  | .sequence => "sequence"
def Kd.word : Kd → Str
  | .plain k => k.word
  | .pool _ => "pool"
  | .timeout _ => "timeout"
  | .orelse => "orelse"
  | .retry .. => "retry"
def NdAt (K : PySem.W.Frag) (H : Hp) (v : V) : Nd → Prop
  | .job d g x c f => ∃ a, v = .ref a ∧ SqT K H a [.str "job", .int d, .str (if g then "gives" else "throws"), .int x, .int c, optV f]
  | .whole (.plain w) ps => ∃ a b, v = .ref a ∧ SqT K H a [.str w.word, .ref b] ∧ SqT K H b (ps.map V.int)
  | .whole (.pool n) ps => ∃ a b, v = .ref a ∧ SqT K H a [.str "pool", .int n, .ref b] ∧ SqT K H b (ps.map V.int)
  | .whole (.timeout t) ps => ∃ a i, ps = [i] ∧ v = .ref a ∧ SqT K H a [.str "timeout", .int t, .int i]
  | .whole .orelse ps => ∃ a i j, ps = [i, j] ∧ v = .ref a ∧ SqT K H a [.str "orelse", .int i, .int j]
  | .whole (.retry r d) ps => ∃ a i, ps = [i] ∧ v = .ref a ∧ SqT K H a [.str "retry", .int r, .int d, .int i]
theorem NdAt.tp {K : PySem.W.Frag} {H H' : Hp} {v : V} {n : Nd} (x : Tp H H') (h : NdAt K H v n) : NdAt K H' v n := by
  match n, h with
  | .job .., ⟨a, e, q⟩ => exact ⟨a, e, x.seq q⟩
  | .whole (.plain w) ps, ⟨a, b, e, q, r⟩ => exact ⟨a, b, e, x.seq q, x.seq r⟩
  | .whole (.pool n) ps, ⟨a, b, e, q, r⟩ => exact ⟨a, b, e, x.seq q, x.seq r⟩
  | .whole (.timeout t) ps, ⟨a, i, e0, e, q⟩ => exact ⟨a, i, e0, e, x.seq q⟩
  | .whole .orelse ps, ⟨a, i, j, e0, e, q⟩ => exact ⟨a, i, j, e0, e, x.seq q⟩
  | .whole (.retry r d) ps, ⟨a, i, e0, e, q⟩ => exact ⟨a, i, e0, e, x.seq q⟩
/-- a row of them -/
structure NdsAt (K : PySem.W.Frag) (H : Hp) (vs : List V) (ns : List Nd) : Prop where
  len : vs.length = ns.length
  at_ : ∀ (i : Nat) (n : Nd), ns[i]? = some n → ∃ v : V, vs[i]? = some v ∧ NdAt K H v n
theorem NdsAt.nil {K : PySem.W.Frag} {H : Hp} : NdsAt K H [] [] := ⟨rfl, fun i n h => by simp at h⟩
theorem NdsAt.tp {K : PySem.W.Frag} {H H' : Hp} {vs : List V} {ns : List Nd} (x : Tp H H') (h : NdsAt K H vs ns) : NdsAt K H' vs ns := ⟨h.len, fun i n q => let ⟨v, e, r⟩ := h.at_ i n q; ⟨v, e, r.tp x⟩⟩
theorem NdsAt.more {K : PySem.W.Frag} {H : Hp} {vs : List V} {ns : List Nd} {v : V} {n : Nd} (h : NdsAt K H vs ns) (r : NdAt K H v n) : NdsAt K H (vs ++ [v]) (ns ++ [n]) := by
  have hl := h.len
  refine ⟨by simp [hl], fun i m q => ?_⟩
  by_cases c : i < ns.length
  · rw [List.getElem?_append_left c] at q
    obtain ⟨u, e, z⟩ := h.at_ i m q
    exact ⟨u, by rw [List.getElem?_append_left (by omega)]; exact e, z⟩
  · rw [List.getElem?_append_right (by omega)] at q
    have c2 : i = ns.length := by
      by_cases c3 : i - ns.length = 0
      · omega
      · rw [List.getElem?_eq_none (by simp; omega)] at q
        cases q
    subst c2
    have e : n = m := by simpa using q
    subst e
    exact ⟨v, by rw [← hl, List.getElem?_append_right (Nat.le_refl _)]; simp, r⟩
def PlanAt (K : PySem.W.Frag) (H : Hp) (v : V) (ns : List Nd) : Prop := ∃ a vs, v = .ref a ∧ SqT K H a vs ∧ NdsAt K H vs ns
theorem PlanAt.tp {K : PySem.W.Frag} {H H' : Hp} {v : V} {ns : List Nd} (x : Tp H H') (h : PlanAt K H v ns) : PlanAt K H' v ns := let ⟨a, vs, e, q, r⟩ := h; ⟨a, vs, e, x.seq q, r.tp x⟩
theorem Box.apart {H : Hp} {b l : Addr} (B : Box H b) (n : H l = none) : l ≠ b := fun z => by
  obtain ⟨_, _, _, h, _⟩ := B
  rw [z, h] at n
  cases n
theorem Box.keepL {H H' : Hp} {b l : Addr} {xs : List V} (B : Box H b) (n : H l = none) (U : But b (upd H l (.lst xs)) H') : H' l = some (.lst xs) := U.k l _ (B.apart n) upd_same
theorem Box.same {H H' : Hp} {b : Addr} (B : Box H b) (e : Same H H') : Box H' b := by
  obtain ⟨l, ds, k, h, hl, r⟩ := B
  exact ⟨l, ds, k, e _ _ h, e _ _ hl, r⟩
theorem same_new {H : Hp} {p : Addr} {o : HO} (n : H p = none) : Same H (upd H p o) := same_upd (Same.refl H) n
structure NamesP (mg : Str → Option Value) : Prop extends Names mg where
  tuple : mg "tuple" = none
  min : mg "min" = none
  max : mg "max" = none
  sum : mg "sum" = none
section
variable {P : Program} {w : World} {K : PySem.W.Frag} {mg : Str → Option Value} {base : Heap}
def spJob (K : PySem.W.Frag) : Sp := fun vs H Q _ => ∃ (b : Addr), vs = [.ref b] ∧ Box H b ∧ ∀ (v : V) (d : Int) (g : Bool) (x c : Int) (f : Option Int) (H' : Hp), JobOk d x c f → Box H' b → But b H H' → NdAt K H' v (.job d g x c f) → Q v H'
theorem scJob : FnScope ["box", "duration", "word", "cleanup", "fault"] ["box"] (defScope sJob) := ⟨rfl, rfl, rfl, by decide +kernel, rfl, by decide +kernel, by decide +kernel⟩
theorem ok_job {f fD : Addr} {fd fdD : FuncData} (F : Fun K "_law_job" "_law_job" sJob f fd) (M : Names mg) (FD : Fun K "_law_draw" "_law_draw" sDraw fD fdD) (mD : mg "_law_draw" = some (.ref fD)) (bD : Binds K fdD ["box", "many"] []) :
    FnOk P w K mg base CX0 2 f fd ["box"] (spJob K) := by
  have GD : FnOk P w K mg base CX0 1 fD fdD ["box", "many"] (spDraw K) := ok_draw FD M
  have kD := FD.kp
  refine F.ok scJob (fun vs H Q E h => ?_) (fun cdv A outer s H vs Q E hr h => ?_)
  · obtain ⟨b, rfl, _⟩ := h
    rfl
  · obtain ⟨b, rfl, B, q⟩ := h
    have nd := scJob.nd
    have three : (3 : Nat) ≤ sizeLine := by decide
    have four : (4 : Nat) ≤ sizeLine := by decide
    have six : (6 : Nat) ≤ sizeLine := by decide
    refine ⟨_, (pss_cons (ps_set (i := 1) nd rfl (Or.inl rfl) (pe_ix ix_list (pe_lst (pa_cons pe_int (pa_cons (pe_call GD (hr.mono (by decide)) rfl mD kD bD .nil pass0 (pa_cons (pv 0) (pa_cons pe_int pa_nil))) (pa_cons (pe_call GD (hr.mono (by decide)) rfl mD kD bD .nil pass0 (pa_cons (pv 0) (pa_cons pe_int pa_nil))) (pa_cons (pe_op op_add (pe_call GD (hr.mono (by decide)) rfl mD kD bD .nil pass0 (pa_cons (pv 0) (pa_cons pe_int pa_nil))) (pe_call GD (hr.mono (by decide)) rfl mD kD bD .nil pass0 (pa_cons (pv 0) (pa_cons pe_int pa_nil)))) pa_nil))))) (pe_call GD (hr.mono (by decide)) rfl mD kD bD .nil pass0 (pa_cons (pv 0) (pa_cons pe_int pa_nil))) (fun _ _ => rfl)))
        (pss_cons (ps_set (i := 2) nd rfl (Or.inl rfl) (pe_ix ix_list (pe_lst (pa_cons pe_str (pa_cons pe_str (pa_cons pe_str pa_nil)))) (pe_call GD (hr.mono (by decide)) rfl mD kD bD .nil pass0 (pa_cons (pv 0) (pa_cons pe_int pa_nil))) (fun _ _ => rfl)))
        (pss_cons (ps_set (i := 3) nd rfl (Or.inl rfl) (pe_ix ix_list (pe_lst (pa_cons pe_int (pa_cons pe_int (pa_cons (pe_call GD (hr.mono (by decide)) rfl mD kD bD .nil pass0 (pa_cons (pv 0) (pa_cons pe_int pa_nil))) (pa_cons (pe_call GD (hr.mono (by decide)) rfl mD kD bD .nil pass0 (pa_cons (pv 0) (pa_cons pe_int pa_nil))) pa_nil))))) (pe_call GD (hr.mono (by decide)) rfl mD kD bD .nil pass0 (pa_cons (pv 0) (pa_cons pe_int pa_nil))) (fun _ _ => rfl)))
        (pss_cons (ps_set (i := 4) nd rfl (Or.inl rfl) pe_non)
        (C8.pss_cut (ps_if (pt_cmpR op_eq (pe_call GD (hr.mono (by decide)) rfl mD kD bD .nil pass0 (pa_cons (pv 0) (pa_cons pe_int pa_nil))) pe_int (nomark _)) (pss_one (ps_set (i := 4) nd rfl (Or.inl rfl) (pe_call GD (hr.mono (by decide)) rfl mD kD bD .nil pass0 (pa_cons (pv 0) (pa_cons pe_int pa_nil))))) pss_nil)
        (pss_one (ps_ret (pe_tup (pa_cons pe_str (pa_cons (pv 1) (pa_cons (pv 2) (pa_cons (pe_call GD (hr.mono (by decide)) rfl mD kD bD .nil pass0 (pa_cons (pv 0) (pa_cons pe_int pa_nil))) (pa_cons (pv 3) (pa_cons (pv 4) pa_nil)))))))))))))), ?_⟩
    -- duration
    refine ⟨_, rfl, b, 4, rfl, B, by decide, fun k1 H1 k10 k11 B1 U1 => ?_⟩
    refine ⟨_, rfl, b, 12, rfl, B1, by decide, fun k2 H2 k20 k21 B2 U2 => ?_⟩
    refine ⟨_, rfl, b, 1000, rfl, B2, by decide, fun k3 H3 k30 k31 B3 U3 => ?_⟩
    refine ⟨_, rfl, b, 2, rfl, B3, by decide, fun k4 H4 k40 k41 B4 U4 => ?_⟩
    refine ⟨_, _, rfl, rfl, four, fun l nl => ?_⟩
    refine ⟨_, rfl, b, 4, rfl, B4.new nl, by decide, fun r H5 r0 r1 B5 U5 => ?_⟩
    have hl := B4.keepL nl U5
    obtain ⟨d, hd, d0, d1⟩ : ∃ d : Int, atI [V.int 0, V.int k1, V.int k2, V.int (k3 + k4)] r = some (.int d) ∧ 0 ≤ d ∧ d ≤ 1000 := by
      have c : r = 0 ∨ r = 1 ∨ r = 2 ∨ r = 3 := by omega
      rcases c with rfl | rfl | rfl | rfl
      · exact ⟨_, rfl, by omega, by omega⟩
      · exact ⟨_, rfl, by omega, by omega⟩
      · exact ⟨_, rfl, by omega, by omega⟩
      · exact ⟨_, rfl, by omega, by omega⟩
    refine ⟨l, _, _, _, rfl, rfl, SqL.of hl, hd, ?_⟩
    have U := (((U1.trans U2).trans U3).trans U4).new (o := .lst [V.int 0, V.int k1, V.int k2, V.int (k3 + k4)]) nl |>.trans U5
    clear U1 U2 U3 U4 U5 hl hd nl B4 B3 B2 B1
    -- word
    refine ⟨three, fun l nl => ?_⟩
    refine ⟨_, rfl, b, 3, rfl, B5.new nl, by decide, fun r H6 r0 r1 B6 U6 => ?_⟩
    have hl := B5.keepL nl U6
    obtain ⟨g, hg⟩ : ∃ g : Bool, atI [V.str "gives", V.str "gives", V.str "throws"] r = some (.str (if g then "gives" else "throws")) := by
      have c : r = 0 ∨ r = 1 ∨ r = 2 := by omega
      rcases c with rfl | rfl | rfl
      · exact ⟨true, rfl⟩
      · exact ⟨true, rfl⟩
      · exact ⟨false, rfl⟩
    refine ⟨l, _, _, _, rfl, rfl, SqL.of hl, hg, ?_⟩
    have U := U.new (o := .lst [V.str "gives", V.str "gives", V.str "throws"]) nl |>.trans U6
    clear U6 hl hg nl B5
    -- cleanup
    refine ⟨_, rfl, b, 5, rfl, B6, by decide, fun k1 H7 k10 k11 B7 U7 => ?_⟩
    refine ⟨_, rfl, b, 101, rfl, B7, by decide, fun k2 H8 k20 k21 B8 U8 => ?_⟩
    refine ⟨four, fun l nl => ?_⟩
    refine ⟨_, rfl, b, 4, rfl, B8.new nl, by decide, fun r H9 r0 r1 B9 U9 => ?_⟩
    have hl := B8.keepL nl U9
    obtain ⟨c, hc, c0, c1⟩ : ∃ d : Int, atI [V.int 0, V.int 0, V.int k1, V.int k2] r = some (.int d) ∧ 0 ≤ d ∧ d ≤ 100 := by
      have c : r = 0 ∨ r = 1 ∨ r = 2 ∨ r = 3 := by omega
      rcases c with rfl | rfl | rfl | rfl
      · exact ⟨_, rfl, by omega, by omega⟩
      · exact ⟨_, rfl, by omega, by omega⟩
      · exact ⟨_, rfl, by omega, by omega⟩
      · exact ⟨_, rfl, by omega, by omega⟩
    refine ⟨l, _, _, _, rfl, rfl, SqL.of hl, hc, ?_⟩
    have U := ((U.trans U7).trans U8).new (o := .lst [V.int 0, V.int 0, V.int k1, V.int k2]) nl |>.trans U9
    clear U7 U8 U9 hl hc nl B8 B7 B6
    -- fault
    refine ⟨fun σ Hc => ∃ fo : Option Int, σ = [some (.ref b), some (.int d), some (.str (if g then "gives" else "throws")), some (.int c), some (optV fo)] ∧ Box Hc b ∧ But b H Hc ∧ ∀ x, fo = some x → 0 ≤ x ∧ x ≤ 999, ?_, ?_⟩
    · refine ⟨_, rfl, b, 3, rfl, B9, by decide, fun r HA r0 r1 BA UA => ?_⟩
      refine ⟨rfl, _, rfl, ite2 (fun _ => ?_) (fun _ => ?_)⟩
      · refine ⟨_, rfl, b, 1000, rfl, BA, by decide, fun x HB x0 x1 BB UB => ?_⟩
        exact ⟨some x, rfl, BB, (U.trans UA).trans UB, fun y e => by have e := Option.some.inj e; omega⟩
      · exact ⟨none, rfl, BA, U.trans UA, fun y e => by cases e⟩
    rintro σ Hc ⟨fo, rfl, BC, UC, hf⟩
    refine ⟨_, rfl, _, rfl, _, rfl, b, 1000, rfl, BC, by decide, fun x HD x0 x1 BD UD => ?_⟩
    refine ⟨_, rfl, _, rfl, six, fun p hp => ?_⟩
    exact q _ d g x c fo _ ⟨⟨d0, d1⟩, ⟨x0, by omega⟩, ⟨c0, c1⟩, hf⟩ (BD.new hp) ((UC.trans UD).new hp) ⟨p, rfl, SqT.of upd_same⟩
end
end LB

set_option maxRecDepth 100000
set_option maxHeartbeats 4000000
namespace LB
open PySem PySem.Spec PyProof.Rows L2
/-- the words of wholes -/
def Wd (z : Str) : Prop := z = "all" ∨ z = "race" ∨ z = "any" ∨ z = "pool" ∨ z = "timeout" ∨ z = "sequence" ∨ z = "orelse" ∨ z = "retry"
structure Fits (z : Str) (n : Nat) : Prop where
  wd : Wd z
  lo : 1 ≤ n
  hi : n ≤ 6
  one : z = "timeout" ∨ z = "retry" → n = 1
  two : z = "orelse" → n = 2
section
variable {P : Program} {w : World} {K : PySem.W.Frag} {mg : Str → Option Value} {base : Heap}
def spWhole (K : PySem.W.Frag) : Sp := fun vs H Q _ => ∃ (b l : Addr) (z : Str) (ts : List Int), vs = [.ref b, .str z, .ref l] ∧ Box H b ∧ H l = some (.lst (ts.map V.int)) ∧ Fits z ts.length ∧
  ∀ (v : V) (k : Kd) (H' : Hp), KdOk k ts.length → k.word = z → 1 ≤ times k → times k ≤ 3 → (z ≠ "retry" → times k = 1) → Box H' b → But b H H' → NdAt K H' v (.whole k ts) → Q v H'
theorem ite_str {x y : Str} {A B : Prop} (h1 : x = y → A) (h2 : x ≠ y → B) : if decide (V.str x = V.str y) = true then A else B :=
  ite2 (fun c => h1 (V.str.inj (of_decide_eq_true c))) (fun c => h2 fun e => c (decide_eq_true (congrArg V.str e)))
theorem scWhole : FnScope ["box", "kind", "tops"] ["box", "kind", "tops"] (defScope sWhole) := ⟨rfl, rfl, rfl, by decide +kernel, rfl, by decide +kernel, by decide +kernel⟩
theorem ok_whole {f fD : Addr} {fd fdD : FuncData} (F : Fun K "_law_whole" "_law_whole" sWhole f fd) (M : NamesP mg) (FD : Fun K "_law_draw" "_law_draw" sDraw fD fdD) (mD : mg "_law_draw" = some (.ref fD)) (bD : Binds K fdD ["box", "many"] []) :
    FnOk P w K mg base CX0 2 f fd ["box", "kind", "tops"] (spWhole K) := by
  have GD : FnOk P w K mg base CX0 1 fD fdD ["box", "many"] (spDraw K) := ok_draw FD M.toNames
  have kD := FD.kp
  refine F.ok scWhole (fun vs H Q E h => ?_) (fun cdv A outer s H vs Q E hr h => ?_)
  · obtain ⟨b, l, z, ts, rfl, _⟩ := h
    rfl
  · obtain ⟨b, l, z, ts, rfl, B, hl, fit, q⟩ := h
    have nd := scWhole.nd
    have two : (2 : Nat) ≤ sizeLine := by decide
    have three : (3 : Nat) ≤ sizeLine := by decide
    have four : (4 : Nat) ≤ sizeLine := by decide
    have lb : l ≠ b := fun e => by
      obtain ⟨l', ds, n, h, _⟩ := B
      rw [e, h] at hl
      have e2 := Option.some.inj hl
      match ts, e2 with
      | [], e2 => cases e2
      | t :: r, e2 => cases e2
    have tl : ∀ {H' : Hp}, But b H H' → H' l = some (.lst (ts.map V.int)) := fun U => U.k l _ lb hl
    refine ⟨_, (pss_cons (ps_if (pt_cmpR op_eq (pv 1) pe_str (nomark _)) (pss_one (ps_ret (pe_tup (pa_cons pe_str (pa_cons (pe_ix ix_list (pe_lst (pa_cons (pe_call GD (hr.mono (by decide)) rfl mD kD bD .nil pass0 (pa_cons (pv 0) (pa_cons pe_int pa_nil))) (pa_cons (pe_call GD (hr.mono (by decide)) rfl mD kD bD .nil pass0 (pa_cons (pv 0) (pa_cons pe_int pa_nil))) (pa_cons (pe_op op_add (pe_call GD (hr.mono (by decide)) rfl mD kD bD .nil pass0 (pa_cons (pv 0) (pa_cons pe_int pa_nil))) (pe_call GD (hr.mono (by decide)) rfl mD kD bD .nil pass0 (pa_cons (pv 0) (pa_cons pe_int pa_nil)))) pa_nil)))) (pe_call GD (hr.mono (by decide)) rfl mD kD bD .nil pass0 (pa_cons (pv 0) (pa_cons pe_int pa_nil))) (fun _ _ => rfl)) (pa_cons (pe_ix ix_list (pv 2) (pe_un un_neg pe_int) (fun _ _ => rfl)) pa_nil)))))) pss_nil)
        (pss_cons (ps_if (pt_cmpR op_eq (pv 1) pe_str (nomark _)) (pss_one (ps_ret (pe_tup (pa_cons pe_str (pa_cons (pe_call GD (hr.mono (by decide)) rfl mD kD bD .nil pass0 (pa_cons (pv 0) (pa_cons pe_int pa_nil))) (pa_cons (pe_ix ix_list (pe_lst (pa_cons pe_int (pa_cons (pe_call GD (hr.mono (by decide)) rfl mD kD bD .nil pass0 (pa_cons (pv 0) (pa_cons pe_int pa_nil))) (pa_cons (pe_call GD (hr.mono (by decide)) rfl mD kD bD .nil pass0 (pa_cons (pv 0) (pa_cons pe_int pa_nil))) pa_nil)))) (pe_call GD (hr.mono (by decide)) rfl mD kD bD .nil pass0 (pa_cons (pv 0) (pa_cons pe_int pa_nil))) (fun _ _ => rfl)) (pa_cons (pe_ix ix_list (pv 2) (pe_un un_neg pe_int) (fun _ _ => rfl)) pa_nil))))))) pss_nil)
        (pss_cons (ps_if (pt_cmpR op_eq (pv 1) pe_str (nomark _)) (pss_one (ps_ret (pe_tup (pa_cons pe_str (pa_cons (pe_ix ix_list (pv 2) (pe_un un_neg pe_int) (fun _ _ => rfl)) (pa_cons (pe_ix ix_list (pv 2) (pe_un un_neg pe_int) (fun _ _ => rfl)) pa_nil)))))) pss_nil)
        (pss_cons (ps_if (pt_cmpR op_eq (pv 1) pe_str (nomark _)) (pss_one (ps_ret (pe_tup (pa_cons pe_str (pa_cons (pe_op op_add pe_int (pe_call GD (hr.mono (by decide)) rfl mD kD bD .nil pass0 (pa_cons (pv 0) (pa_cons pe_int pa_nil)))) (pa_cons (pe_callTy call_tuple_of (by rfl) M.tuple (by decide +kernel) (pa_cons (pv 2) pa_nil)) pa_nil)))))) pss_nil)
        (pss_one (ps_ret (pe_tup (pa_cons (pv 1) (pa_cons (pe_callTy call_tuple_of (by rfl) M.tuple (by decide +kernel) (pa_cons (pv 2) pa_nil)) pa_nil))))))))), ?_⟩
    refine ⟨_, rfl, rfl, _, rfl, ite_str (fun ez => ?_) (fun n1 => ?_)⟩
    · -- timeout
      subst ez
      have e1 := fit.one (.inl rfl)
      obtain ⟨i, rfl⟩ : ∃ i, ts = [i] := List.length_eq_one_iff.mp e1
      refine ⟨_, rfl, b, 4, rfl, B, by decide, fun k2 H2 k20 k21 B2 U2 => ?_⟩
      refine ⟨_, rfl, b, 12, rfl, B2, by decide, fun k3 H3 k30 k31 B3 U3 => ?_⟩
      refine ⟨_, rfl, b, 1000, rfl, B3, by decide, fun k4 H4 k40 k41 B4 U4 => ?_⟩
      refine ⟨_, rfl, b, 2, rfl, B4, by decide, fun k5 H5 k50 k51 B5 U5 => ?_⟩
      refine ⟨_, _, rfl, rfl, three, fun m nm => ?_⟩
      refine ⟨_, rfl, b, 3, rfl, B5.new nm, by decide, fun r H6 r0 r1 B6 U6 => ?_⟩
      have hm := B5.keepL nm U6
      obtain ⟨t, ht, t0, t1⟩ : ∃ d : Int, atI [V.int k2, V.int k3, V.int (k4 + k5)] r = some (.int d) ∧ 0 ≤ d ∧ d ≤ 1000 := by
        have c : r = 0 ∨ r = 1 ∨ r = 2 := by omega
        rcases c with rfl | rfl | rfl
        · exact ⟨_, rfl, by omega, by omega⟩
        · exact ⟨_, rfl, by omega, by omega⟩
        · exact ⟨_, rfl, by omega, by omega⟩
      refine ⟨m, _, _, _, rfl, rfl, SqL.of hm, ht, ?_⟩
      have U := (((U2.trans U3).trans U4).trans U5).new (o := .lst [V.int k2, V.int k3, V.int (k4 + k5)]) nm |>.trans U6
      refine ⟨_, rfl, _, rfl, l, _, _, _, rfl, rfl, SqL.of (tl U), rfl, three, fun p hp => ?_⟩
      exact q _ (.timeout t) _ ⟨rfl, t0, t1⟩ rfl (by show (1 : Int) ≤ 1; decide) (by show (1 : Int) ≤ 3; decide) (fun _ => rfl) (B6.new hp) (U.new hp) ⟨p, i, rfl, rfl, SqT.of upd_same⟩
    refine ⟨_, rfl, rfl, _, rfl, ite_str (fun ez => ?_) (fun n2 => ?_)⟩
    · -- retry
      subst ez
      have e1 := fit.one (.inr rfl)
      obtain ⟨i, rfl⟩ : ∃ i, ts = [i] := List.length_eq_one_iff.mp e1
      refine ⟨_, rfl, b, 3, rfl, B, by decide, fun k2 H2 k20 k21 B2 U2 => ?_⟩
      refine ⟨_, rfl, b, 4, rfl, B2, by decide, fun k3 H3 k30 k31 B3 U3 => ?_⟩
      refine ⟨_, rfl, b, 101, rfl, B3, by decide, fun k4 H4 k40 k41 B4 U4 => ?_⟩
      refine ⟨three, fun m nm => ?_⟩
      refine ⟨_, rfl, b, 3, rfl, B4.new nm, by decide, fun r H6 r0 r1 B6 U6 => ?_⟩
      have hm := B4.keepL nm U6
      obtain ⟨t, ht, t0, t1⟩ : ∃ d : Int, atI [V.int 0, V.int k3, V.int k4] r = some (.int d) ∧ 0 ≤ d ∧ d ≤ 100 := by
        have c : r = 0 ∨ r = 1 ∨ r = 2 := by omega
        rcases c with rfl | rfl | rfl
        · exact ⟨_, rfl, by omega, by omega⟩
        · exact ⟨_, rfl, by omega, by omega⟩
        · exact ⟨_, rfl, by omega, by omega⟩
      refine ⟨m, _, _, _, rfl, rfl, SqL.of hm, ht, ?_⟩
      have U := ((U2.trans U3).trans U4).new (o := .lst [V.int 0, V.int k3, V.int k4]) nm |>.trans U6
      refine ⟨_, rfl, _, rfl, l, _, _, _, rfl, rfl, SqL.of (tl U), rfl, four, fun p hp => ?_⟩
      exact q _ (.retry k2 t) _ ⟨rfl, k20, by omega, t0, t1⟩ rfl (by show (1 : Int) ≤ k2 + 1; omega) (by show k2 + 1 ≤ 3; omega) (fun n => absurd rfl n) (B6.new hp) (U.new hp) ⟨p, i, rfl, rfl, SqT.of upd_same⟩
    refine ⟨_, rfl, rfl, _, rfl, ite_str (fun ez => ?_) (fun n3 => ?_)⟩
    · -- orelse
      subst ez
      have e1 := fit.two rfl
      obtain ⟨i, j, rfl⟩ : ∃ i j, ts = [i, j] := by
        match ts, e1 with
        | [i, j], _ => exact ⟨i, j, rfl⟩
      refine ⟨_, rfl, _, rfl, l, _, _, _, rfl, rfl, SqL.of hl, rfl, _, rfl, _, rfl, l, _, _, _, rfl, rfl, SqL.of hl, rfl, three, fun p hp => ?_⟩
      exact q _ .orelse _ rfl rfl (by show (1 : Int) ≤ 1; decide) (by show (1 : Int) ≤ 3; decide) (fun _ => rfl) (B.new hp) ((But.refl b H).new hp) ⟨p, i, j, rfl, rfl, SqT.of upd_same⟩
    refine ⟨_, rfl, rfl, _, rfl, ite_str (fun ez => ?_) (fun n4 => ?_)⟩
    · -- pool
      subst ez
      refine ⟨_, rfl, b, 3, rfl, B, by decide, fun k2 H2 k20 k21 B2 U2 => ?_⟩
      refine ⟨_, _, rfl, rfl, _, rfl, l, _, rfl, .inl ⟨SqL.of (tl U2), fun p hp => ?_⟩⟩
      refine ⟨three, fun p2 hp2 => ?_⟩
      have S := same_new (o := .tup [V.str "pool", .int (1 + k2), .ref p]) hp2
      exact q _ (.pool (1 + k2)) _ ⟨fit.lo, fit.hi, by omega, by omega⟩ rfl (by show (1 : Int) ≤ 1; decide) (by show (1 : Int) ≤ 3; decide) (fun _ => rfl) ((B2.new hp).new hp2) ((U2.new hp).new hp2)
        ⟨p2, p, rfl, SqT.of upd_same, SqT.of (S _ _ upd_same)⟩
    · -- the others
      obtain ⟨pk, hpk⟩ : ∃ pk : Pk, pk.word = z := by
        rcases fit.wd with h | h | h | h | h | h | h | h
        · exact ⟨.all, h.symm⟩
        · exact ⟨.race, h.symm⟩
        · exact ⟨.any, h.symm⟩
        · exact absurd h n4
        · exact absurd h n1
        · exact ⟨.sequence, h.symm⟩
        · exact absurd h n3
        · exact absurd h n2
      subst hpk
      refine ⟨_, rfl, _, rfl, l, _, rfl, .inl ⟨SqL.of hl, fun p hp => ?_⟩⟩
      refine ⟨two, fun p2 hp2 => ?_⟩
      have S := same_new (o := .tup [V.str pk.word, .ref p]) hp2
      exact q _ (.plain pk) _ ⟨fit.lo, fit.hi⟩ rfl (by show (1 : Int) ≤ 1; decide) (by show (1 : Int) ≤ 3; decide) (fun _ => rfl) ((B.new hp).new hp2) (((But.refl b H).new hp).new hp2)
        ⟨p2, p, rfl, SqT.of upd_same, SqT.of (S _ _ upd_same)⟩
end
end LB

set_option maxRecDepth 100000
set_option maxHeartbeats 8000000
namespace LB
open PySem PySem.Spec PyProof.Rows L2
/-! ### the ends of lists -/
theorem cut_tail {xs ys : List V} {m : Int} (h : m = (ys.length : Int)) (h1 : 1 ≤ m) : cutV (xs ++ ys) (some (-m)) none = ys := by
  unfold cutV
  have e1 : HT.sIx (xs ++ ys).length 0 (some (-m)) = xs.length := by
    show (if -m < 0 then (-m + ((xs ++ ys).length : Int)).toNat else min (-m).toNat (xs ++ ys).length) = _
    rw [if_pos (by omega), List.length_append]
    omega
  have e2 : HT.sIx (xs ++ ys).length (xs ++ ys).length none = (xs ++ ys).length := rfl
  rw [e1, e2, List.drop_left, List.length_append, List.take_of_length_le (by omega)]
theorem cut_head {xs ys : List V} {m : Int} (h : m = (ys.length : Int)) (h1 : 1 ≤ m) : cutV (xs ++ ys) none (some (-m)) = xs := by
  unfold cutV
  have e1 : HT.sIx (xs ++ ys).length (xs ++ ys).length (some (-m)) = xs.length := by
    show (if -m < 0 then (-m + ((xs ++ ys).length : Int)).toNat else min (-m).toNat (xs ++ ys).length) = _
    rw [if_pos (by omega), List.length_append]
    omega
  have e2 : HT.sIx (xs ++ ys).length 0 none = 0 := rfl
  rw [e1, e2, List.drop_zero, Nat.sub_zero, List.take_left]
theorem cut_tailI {na nb : List Int} {m : Int} (h : m = (nb.length : Int)) (h1 : 1 ≤ m) : cutV ((na ++ nb).map V.int) (some (-m)) none = nb.map V.int := by
  rw [List.map_append]
  exact cut_tail (by rw [List.length_map]; exact h) h1
theorem cut_headI {na nb : List Int} {m : Int} (h : m = (nb.length : Int)) (h1 : 1 ≤ m) : cutV ((na ++ nb).map V.int) none (some (-m)) = na.map V.int := by
  rw [List.map_append]
  exact cut_head (by rw [List.length_map]; exact h) h1
/-! ### what grows: four lists, told by nodes N, tops T, depths D, runs R -/
structure Gr (K : PySem.W.Frag) (H0 H : Hp) (b l1 l2 l3 l4 : Addr) (N : List Nd) (T D R : List Int) : Prop where
  B0 : Box H0 b
  B : Box H b
  U : But b H0 H
  e1 : H0 l1 = none
  e2 : H0 l2 = none
  e3 : H0 l3 = none
  e4 : H0 l4 = none
  ne : l1 ≠ l2 ∧ l1 ≠ l3 ∧ l1 ≠ l4 ∧ l2 ≠ l3 ∧ l2 ≠ l4 ∧ l3 ≠ l4
  n1 : ∃ vs, H l1 = some (.lst vs) ∧ NdsAt K H vs N
  n2 : H l2 = some (.lst (T.map V.int))
  n3 : H l3 = some (.lst (D.map V.int))
  n4 : H l4 = some (.lst (R.map V.int))
theorem Box.off {H : Hp} {b l : Addr} (B : Box H b) (e : H l = none) : l ≠ b := B.apart e
/-- a list that is not of the box is written -/
theorem Box.put {H0 H : Hp} {b l : Addr} {o : HO} (B0 : Box H0 b) (B : Box H b) (U : But b H0 H) (e : H0 l = none) : Box (upd H l o) b ∧ But b H0 (upd H l o) := by
  have lb := B0.off e
  obtain ⟨l0, d0, n0, hb0, hl0, _⟩ := B0
  obtain ⟨l1, d1, n1, hb1, hl1, ne1, r⟩ := B
  obtain ⟨n', h'⟩ := U.d l0 n0 hb0
  have el : l1 = l0 := by
    rw [hb1] at h'
    have e2 := Option.some.inj h'
    injection e2 with e3
    injection e3 with e4
    exact V.ref.inj e4
  subst el
  have ll : l ≠ l1 := fun z => by rw [z, hl0] at e; cases e
  have U' : But b H0 (upd H l o) := ⟨fun a u na q => by
    have al : a ≠ l := fun z => by rw [z, e] at q; cases q
    rw [upd_ne al]
    exact U.k a u na q, fun l' m q => by
    obtain ⟨m', q'⟩ := U.d l' m q
    exact ⟨m', by rw [upd_ne (Ne.symm lb)]; exact q'⟩⟩
  exact ⟨⟨l1, d1, n1, by rw [upd_ne (Ne.symm lb)]; exact hb1, by rw [upd_ne (Ne.symm ll)]; exact hl1, ne1, r⟩, U'⟩
section
variable {K : PySem.W.Frag} {H0 H H' : Hp} {b l1 l2 l3 l4 p : Addr} {N : List Nd} {T D R T' : List Int} {o : HO}
theorem Gr.but (G : Gr K H0 H b l1 l2 l3 l4 N T D R) (B : Box H' b) (U : But b H H') : Gr K H0 H' b l1 l2 l3 l4 N T D R :=
  { B0 := G.B0, B := B, U := G.U.trans U, e1 := G.e1, e2 := G.e2, e3 := G.e3, e4 := G.e4, ne := G.ne,
    n1 := let ⟨vs, h, r⟩ := G.n1; ⟨vs, U.k _ _ (G.B0.off G.e1) h, r.tp (Tp.but G.B U)⟩, n2 := U.k _ _ (G.B0.off G.e2) G.n2, n3 := U.k _ _ (G.B0.off G.e3) G.n3, n4 := U.k _ _ (G.B0.off G.e4) G.n4 }
theorem Gr.new (G : Gr K H0 H b l1 l2 l3 l4 N T D R) (n : H p = none) : Gr K H0 (upd H p o) b l1 l2 l3 l4 N T D R := G.but (G.B.new n) ((But.refl b H).new n)
theorem Gr.free (G : Gr K H0 H b l1 l2 l3 l4 N T D R) (n : H p = none) : H0 p = none := by
  cases q : H0 p with
  | none => rfl
  | some u =>
    have pb : p ≠ b := G.B.off n
    rw [G.U.k p u pb q] at n
    cases n
theorem Gr.push1 (G : Gr K H0 H b l1 l2 l3 l4 N T D R) {vs : List V} (h : H l1 = some (.lst vs)) {v : V} {n : Nd} (hv : NdAt K H v n) : Gr K H0 (upd H l1 (.lst (vs ++ [v]))) b l1 l2 l3 l4 (N ++ [n]) T D R := by
  obtain ⟨vs', h', r⟩ := G.n1
  rw [h] at h'
  cases h'
  obtain ⟨B, U⟩ := Box.put (o := .lst (vs ++ [v])) G.B0 G.B G.U G.e1
  have tp := Tp.lst (o := .lst (vs ++ [v])) h
  obtain ⟨a, c, d, _⟩ := G.ne
  exact { B0 := G.B0, B := B, U := U, e1 := G.e1, e2 := G.e2, e3 := G.e3, e4 := G.e4, ne := G.ne, n1 := ⟨_, upd_same, (r.tp tp).more (hv.tp tp)⟩, n2 := (by rw [upd_ne (Ne.symm a)]; exact G.n2), n3 := (by rw [upd_ne (Ne.symm c)]; exact G.n3), n4 := (by rw [upd_ne (Ne.symm d)]; exact G.n4) }
theorem Gr.push2 (G : Gr K H0 H b l1 l2 l3 l4 N T D R) {x : Int} : Gr K H0 (upd H l2 (.lst (T.map V.int ++ [V.int x]))) b l1 l2 l3 l4 N (T ++ [x]) D R := by
  obtain ⟨vs, h, r⟩ := G.n1
  obtain ⟨B, U⟩ := Box.put (o := .lst (T.map V.int ++ [V.int x])) G.B0 G.B G.U G.e2
  have tp := Tp.lst (o := .lst (T.map V.int ++ [V.int x])) G.n2
  obtain ⟨a, _, _, c, d, _⟩ := G.ne
  exact { B0 := G.B0, B := B, U := U, e1 := G.e1, e2 := G.e2, e3 := G.e3, e4 := G.e4, ne := G.ne, n1 := ⟨vs, by rw [upd_ne a]; exact h, r.tp tp⟩, n2 := upd_same.trans (congrArg some lst_more), n3 := (by rw [upd_ne (Ne.symm c)]; exact G.n3), n4 := (by rw [upd_ne (Ne.symm d)]; exact G.n4) }
theorem Gr.push3 (G : Gr K H0 H b l1 l2 l3 l4 N T D R) {x : Int} : Gr K H0 (upd H l3 (.lst (D.map V.int ++ [V.int x]))) b l1 l2 l3 l4 N T (D ++ [x]) R := by
  obtain ⟨vs, h, r⟩ := G.n1
  obtain ⟨B, U⟩ := Box.put (o := .lst (D.map V.int ++ [V.int x])) G.B0 G.B G.U G.e3
  have tp := Tp.lst (o := .lst (D.map V.int ++ [V.int x])) G.n3
  obtain ⟨_, a, _, c, _, d⟩ := G.ne
  exact { B0 := G.B0, B := B, U := U, e1 := G.e1, e2 := G.e2, e3 := G.e3, e4 := G.e4, ne := G.ne, n1 := ⟨vs, by rw [upd_ne a]; exact h, r.tp tp⟩, n2 := (by rw [upd_ne c]; exact G.n2), n3 := upd_same.trans (congrArg some lst_more), n4 := (by rw [upd_ne (Ne.symm d)]; exact G.n4) }
theorem Gr.push4 (G : Gr K H0 H b l1 l2 l3 l4 N T D R) {x : Int} : Gr K H0 (upd H l4 (.lst (R.map V.int ++ [V.int x]))) b l1 l2 l3 l4 N T D (R ++ [x]) := by
  obtain ⟨vs, h, r⟩ := G.n1
  obtain ⟨B, U⟩ := Box.put (o := .lst (R.map V.int ++ [V.int x])) G.B0 G.B G.U G.e4
  have tp := Tp.lst (o := .lst (R.map V.int ++ [V.int x])) G.n4
  obtain ⟨_, _, a, _, c, d⟩ := G.ne
  exact { B0 := G.B0, B := B, U := U, e1 := G.e1, e2 := G.e2, e3 := G.e3, e4 := G.e4, ne := G.ne, n1 := ⟨vs, by rw [upd_ne a]; exact h, r.tp tp⟩, n2 := (by rw [upd_ne c]; exact G.n2), n3 := (by rw [upd_ne d]; exact G.n3), n4 := upd_same.trans (congrArg some lst_more) }
theorem Gr.mov2 (G : Gr K H0 H b l1 l2 l3 l4 N T D R) (n : H p = none) {xs : List V} (e : xs = T'.map V.int) : Gr K H0 (upd H p (.lst xs)) b l1 p l3 l4 N T' D R := by
  subst e
  have G' := G.new (o := .lst (T'.map V.int)) n
  obtain ⟨vs, h, _⟩ := G.n1
  exact { B0 := G'.B0, B := G'.B, U := G'.U, e1 := G.e1, e2 := G.free n, e3 := G.e3, e4 := G.e4, ne := ⟨ne_of_none h n, G.ne.2.1, G.ne.2.2.1, (ne_of_none G.n3 n).symm, (ne_of_none G.n4 n).symm, G.ne.2.2.2.2.2⟩, n1 := G'.n1, n2 := upd_same, n3 := G'.n3, n4 := G'.n4 }
theorem Gr.mov3 (G : Gr K H0 H b l1 l2 l3 l4 N T D R) (n : H p = none) {xs : List V} (e : xs = T'.map V.int) : Gr K H0 (upd H p (.lst xs)) b l1 l2 p l4 N T T' R := by
  subst e
  have G' := G.new (o := .lst (T'.map V.int)) n
  obtain ⟨vs, h, _⟩ := G.n1
  exact { B0 := G'.B0, B := G'.B, U := G'.U, e1 := G.e1, e2 := G.e2, e3 := G.free n, e4 := G.e4, ne := ⟨G.ne.1, ne_of_none h n, G.ne.2.2.1, ne_of_none G.n2 n, G.ne.2.2.2.2.1, (ne_of_none G.n4 n).symm⟩, n1 := G'.n1, n2 := G'.n2, n3 := upd_same, n4 := G'.n4 }
theorem Gr.mov4 (G : Gr K H0 H b l1 l2 l3 l4 N T D R) (n : H p = none) {xs : List V} (e : xs = T'.map V.int) : Gr K H0 (upd H p (.lst xs)) b l1 l2 l3 p N T D T' := by
  subst e
  have G' := G.new (o := .lst (T'.map V.int)) n
  obtain ⟨vs, h, _⟩ := G.n1
  exact { B0 := G'.B0, B := G'.B, U := G'.U, e1 := G.e1, e2 := G.e2, e3 := G.e3, e4 := G.free n, ne := ⟨G.ne.1, G.ne.2.1, ne_of_none h n, G.ne.2.2.2.1, ne_of_none G.n2 n, ne_of_none G.n3 n⟩, n1 := G'.n1, n2 := G'.n2, n3 := G'.n3, n4 := upd_same }
end
theorem Gr.cast {K : PySem.W.Frag} {H0 H : Hp} {b l1 l2 l3 l4 : Addr} {N N' : List Nd} {T D R T' D' R' : List Int} (G : Gr K H0 H b l1 l2 l3 l4 N T D R) (e1 : N' = N) (e2 : T' = T) (e3 : D' = D) (e4 : R' = R) : Gr K H0 H b l1 l2 l3 l4 N' T' D' R' := by
  subst e1 e2 e3 e4
  exact G
/-! ### the forest between two turns -/
def Each (F : List Pl) : Prop := ∀ p ∈ F, OkP p ∧ 1 ≤ p.depth ∧ 1 ≤ p.runs
theorem depth_pos : ∀ p : Pl, 1 ≤ p.depth
  | .job .. => by rw [Pl.depth]; decide
  | .node k ps => by
    rw [Pl.depth]
    have := maxI_nn (Pl.depthL ps)
    omega
theorem sum_app (a c : List Int) : (a ++ c).sum = a.sum + c.sum := by rw [List.sum_append]
theorem sum_nn {l : List Int} (h : ∀ x ∈ l, 1 ≤ x) : 0 ≤ l.sum := by
  induction l with
  | nil => decide
  | cons x r ih =>
    have h1 := h x (List.mem_cons_self ..)
    have h2 := ih fun y hy => h y (List.mem_cons_of_mem _ hy)
    rw [List.sum_cons]
    omega
theorem sum_pos {l : List Int} (h : ∀ x ∈ l, 1 ≤ x) (hl : l ≠ []) : 1 ≤ l.sum := by
  cases l with
  | nil => exact absurd rfl hl
  | cons x r =>
    have h1 := h x (List.mem_cons_self ..)
    have h2 := sum_nn fun y hy => h y (List.mem_cons_of_mem _ hy)
    rw [List.sum_cons]
    omega
/-- a forest of at most n trees, m nodes, r runs, of depths up to d -/
structure Fo (F : List Pl) (n m : Nat) (r d : Int) : Prop where
  ok : ∀ p ∈ F, OkP p
  dp : ∀ p ∈ F, p.depth ≤ d
  rn : ∀ p ∈ F, 1 ≤ p.runs
  len : F.length ≤ n
  size : Pl.sizeL F ≤ m
  sum : (F.map Pl.runs).sum ≤ r
theorem Fo.job {F : List Pl} {n m : Nat} {r d : Int} (f : Fo F n m r d) (h : 1 ≤ d) {dd : Int} {g : Bool} {x c : Int} {fo : Option Int} (j : JobOk dd x c fo) : Fo (F ++ [.job dd g x c fo]) (n + 1) (m + 1) (r + 1) d := by
  refine ⟨fun p hp => ?_, fun p hp => ?_, fun p hp => ?_, by simpa using f.len, ?_, ?_⟩
  · rcases List.mem_append.mp hp with q | q
    · exact f.ok p q
    · rw [List.mem_singleton.mp q]; exact .job j
  · rcases List.mem_append.mp hp with q | q
    · exact f.dp p q
    · rw [List.mem_singleton.mp q, Pl.depth]; exact h
  · rcases List.mem_append.mp hp with q | q
    · exact f.rn p q
    · rw [List.mem_singleton.mp q, Pl.runs]; decide
  · rw [sizeL_app, sizeL_one, Pl.size]
    have := f.size
    omega
  · rw [List.map_append, sum_app]
    have := f.sum
    show _ + ([(Pl.job dd g x c fo).runs] : List Int).sum ≤ _
    rw [Pl.runs]
    show _ + ([1] : List Int).sum ≤ _
    have e : ([1] : List Int).sum = 1 := by decide
    rw [e]
    omega
theorem Fo.join {A B : List Pl} {n m : Nat} {r d d' r' : Int} (f : Fo (A ++ B) n m r d) {k : Kd} (hk : KdOk k B.length) (t1 : 1 ≤ times k) (hB : B ≠ []) (hd : ∀ p ∈ B, p.depth < d') (hdd : d ≤ d') (hr : (A.map Pl.runs).sum + times k * (B.map Pl.runs).sum ≤ r') :
    Fo (A ++ [.node k B]) n (m + 1) r' d' := by
  have pos : 1 ≤ (B.map Pl.runs).sum := sum_pos (fun x hx => by
    obtain ⟨p, hp, e⟩ := List.mem_map.mp hx
    rw [← e]
    exact f.rn p (List.mem_append_right _ hp)) (by simpa using hB)
  refine ⟨fun p hp => ?_, fun p hp => ?_, fun p hp => ?_, ?_, ?_, ?_⟩
  · rcases List.mem_append.mp hp with q | q
    · exact f.ok p (List.mem_append_left _ q)
    · rw [List.mem_singleton.mp q]; exact .node hk fun p hp => f.ok p (List.mem_append_right _ hp)
  · rcases List.mem_append.mp hp with q | q
    · exact Int.le_trans (f.dp p (List.mem_append_left _ q)) hdd
    · rw [List.mem_singleton.mp q, Pl.depth, depthL_map]
      have h : maxI (B.map Pl.depth) ≤ d' - 1 := by
        refine maxI_le ?_ fun x hx => ?_
        · match B, hB, hd with
          | p :: _, _, hd =>
            have h1 := hd p (List.mem_cons_self ..)
            have h2 := depth_pos p
            omega
        · obtain ⟨p, hp, e⟩ := List.mem_map.mp hx
          have := hd p hp
          omega
      omega
  · rcases List.mem_append.mp hp with q | q
    · exact f.rn p (List.mem_append_left _ q)
    · rw [List.mem_singleton.mp q, Pl.runs, runsL_map]
      have h := Int.mul_le_mul t1 pos (by decide) (by omega)
      simpa using h
  · have := f.len
    have h := List.length_pos_iff.mpr hB
    simp only [List.length_append, List.length_singleton] at this ⊢
    omega
  · have := f.size
    rw [sizeL_app] at this
    rw [sizeL_app, sizeL_one, Pl.size]
    omega
  · rw [List.map_append, sum_app]
    show _ + ([(Pl.node k B).runs] : List Int).sum ≤ _
    rw [Pl.runs, runsL_map, List.sum_cons, List.sum_nil]
    omega
theorem split_last {F : List Pl} {m : Nat} (h : m ≤ F.length) : ∃ A B, F = A ++ B ∧ B.length = m := ⟨F.take (F.length - m), F.drop (F.length - m), (List.take_append_drop ..).symm, by rw [List.length_drop]; omega⟩
end LB

set_option maxRecDepth 100000
set_option maxHeartbeats 8000000
namespace LB
open PySem PySem.Spec PyProof.Rows L2
/-- bounds of the last three turns -/
def dB (t : Nat) : Int := if t = 0 then 6 else if t = 1 then 7 else 8
def nB (t : Nat) : Nat := if t = 0 then 10 else if t = 1 then 5 else 1
theorem dB_lt {t : Nat} (h : t ≤ 1) : dB t < dB (t + 1) := by
  match t, h with
  | 0, _ => decide
  | 1, _ => decide
theorem dB_le (t : Nat) : dB t ≤ dB (t + 1) := by
  match t with
  | 0 => decide
  | 1 => decide
  | t + 2 => exact Int.le_refl 8
theorem nB_le (t : Nat) : nB t ≤ 10 := by
  match t with
  | 0 => decide
  | 1 => decide
  | t + 2 => exact (by decide : 1 ≤ 10)
theorem nB_one {t : Nat} (h : 1 < nB t) : t ≤ 1 := by
  match t, h with
  | 0, _ => decide
  | 1, _ => decide
  | t + 2, h => exact absurd (show 1 < 1 from h) (by decide)
theorem nB_pos (t : Nat) : 1 ≤ nB t := by
  match t with
  | 0 => decide
  | 1 => decide
  | t + 2 => exact (by decide : 1 ≤ 1)
theorem nB_next {t a c : Nat} (ht : t ≤ 1) (h : a + c ≤ nB t) (hm : c = a + c ∨ c = 6) : a + 1 ≤ nB (t + 1) := by
  match t, ht with
  | 0, _ =>
    have h : a + c ≤ 10 := h
    show a + 1 ≤ 5
    omega
  | 1, _ =>
    have h : a + c ≤ 5 := h
    show a + 1 ≤ 1
    omega
section
variable {P : Program} {w : World} {K : PySem.W.Frag} {mg : Str → Option Value} {base : Heap}
/-- a whole plan of at most 10 jobs, within all bounds -/
structure Whole (p : Pl) : Prop where
  ok : OkP p
  deep : p.depth ≤ 8
  runs : p.runs ≤ 60
  size : p.size ≤ 40
def spPlan (K : PySem.W.Frag) : Sp := fun vs H Q _ => ∃ (b : Addr) (j : Int), vs = [.ref b, .int j] ∧ Box H b ∧ 1 ≤ j ∧ j ≤ 10 ∧ ∀ (v : V) (p : Pl) (H' : Hp), Whole p → Box H' b → But b H H' → PlanAt K H' v (p.flat 0) → Q v H'
theorem scPlan : FnScope ["box", "jobs", "nodes", "tops", "deep", "runs", "turn", "step", "kind", "many", "times"] ["box", "jobs"] (defScope sPlan) := ⟨rfl, rfl, rfl, by decide +kernel, rfl, by decide +kernel, by decide +kernel⟩
theorem ok_plan {f fD fJ fW : Addr} {fd fdD fdJ fdW : FuncData} (F : Fun K "_law_plan" "_law_plan" sPlan f fd) (M : NamesP mg) (FD : Fun K "_law_draw" "_law_draw" sDraw fD fdD) (mD : mg "_law_draw" = some (.ref fD)) (bD : Binds K fdD ["box", "many"] [])
    (FJ : Fun K "_law_job" "_law_job" sJob fJ fdJ) (mJ : mg "_law_job" = some (.ref fJ)) (bJ : Binds K fdJ ["box"] []) (FW : Fun K "_law_whole" "_law_whole" sWhole fW fdW) (mW : mg "_law_whole" = some (.ref fW)) (bW : Binds K fdW ["box", "kind", "tops"] []) :
    FnOk P w K mg base CX0 3 f fd ["box", "jobs"] (spPlan K) := by
  have GD : FnOk P w K mg base CX0 1 fD fdD ["box", "many"] (spDraw K) := ok_draw FD M.toNames
  have GJ : FnOk P w K mg base CX0 2 fJ fdJ ["box"] (spJob K) := ok_job FJ M.toNames FD mD bD
  have GW : FnOk P w K mg base CX0 2 fW fdW ["box", "kind", "tops"] (spWhole K) := ok_whole FW M FD mD bD
  have kD := FD.kp
  have kJ := FJ.kp
  have kW := FW.kp
  refine F.ok scPlan (fun vs H Q E h => ?_) (fun cdv A outer s H vs Q E hr h => ?_)
  · obtain ⟨b, j, rfl, _⟩ := h
    rfl
  · obtain ⟨b, j, rfl, B0, j1, j10, q⟩ := h
    have nd := scPlan.nd
    have zero : (0 : Nat) ≤ sizeLine := by decide
    have one : (1 : Nat) ≤ sizeLine := by decide
    have two : (2 : Nat) ≤ sizeLine := by decide
    have five : (5 : Nat) ≤ sizeLine := by decide
    have eight : (8 : Nat) ≤ sizeLine := by decide
    refine ⟨_, (pss_cons (ps_set (i := 2) nd rfl (Or.inl rfl) (pe_lst pa_nil))
        (pss_cons (ps_set (i := 3) nd rfl (Or.inl rfl) (pe_lst pa_nil))
        (pss_cons (ps_set (i := 4) nd rfl (Or.inl rfl) (pe_lst pa_nil))
        (pss_cons (ps_set (i := 5) nd rfl (Or.inl rfl) (pe_lst pa_nil))
        (pss_cons (ps_for PassesOwn.never rfl (pi_range1 (by rfl) M.range (pa_cons (pe_op op_add pe_int (pe_call GD (hr.mono (by decide)) rfl mD kD bD .nil pass0 (pa_cons (pv 0) (pa_cons (pv 1) pa_nil)))) pa_nil)) (pg_name (i := 6) nd rfl (Or.inl rfl)) (pss_cons (ps_expr (pe_bm PySem.F.plainAttrs_list PySem.F.slot_list_append PySem.F.type_list_append mt_append (pv 2) (pa_cons (pe_call GJ (hr.mono (by decide)) rfl mJ kJ bJ .nil pass0 (pa_cons (pv 0) pa_nil)) pa_nil)))
        (pss_cons (ps_expr (pe_bm PySem.F.plainAttrs_list PySem.F.slot_list_append PySem.F.type_list_append mt_append (pv 3) (pa_cons (pe_op op_sub (pe_callB call_len_seq (by rfl) M.len PySem.boot_len (pa_cons (pv 2) pa_nil)) pe_int) pa_nil)))
        (pss_cons (ps_expr (pe_bm PySem.F.plainAttrs_list PySem.F.slot_list_append PySem.F.type_list_append mt_append (pv 4) (pa_cons pe_int pa_nil)))
        (pss_cons (ps_expr (pe_bm PySem.F.plainAttrs_list PySem.F.slot_list_append PySem.F.type_list_append mt_append (pv 5) (pa_cons pe_int pa_nil)))
        (pss_one (ps_for PassesOwn.never rfl (pi_range1 (by rfl) M.range (pa_cons (pe_call GD (hr.mono (by decide)) rfl mD kD bD .nil pass0 (pa_cons (pv 0) (pa_cons pe_int pa_nil))) pa_nil)) (pg_name (i := 7) nd rfl (Or.inl rfl)) (pss_cons (ps_set (i := 8) nd rfl (Or.inl rfl) (pe_ix ix_list (pe_lst (pa_cons pe_str (pa_cons pe_str (pa_cons pe_str (pa_cons pe_str (pa_cons pe_str (pa_cons pe_str (pa_cons pe_str (pa_cons pe_str pa_nil))))))))) (pe_call GD (hr.mono (by decide)) rfl mD kD bD .nil pass0 (pa_cons (pv 0) (pa_cons pe_int pa_nil))) (fun _ _ => rfl)))
        (pss_cons (ps_set (i := 9) nd rfl (Or.inl rfl) pe_int)
        (C8.pss_cut (ps_if (pt_cmpR op_eq (pv 8) pe_str (nomark _)) (pss_one (ps_set (i := 9) nd rfl (Or.inl rfl) pe_int)) (pss_one (ps_if (pt_cmpR op_notIn_seq (pv 8) (pe_tup (pa_cons pe_str (pa_cons pe_str pa_nil))) rfl) (pss_one (ps_set (i := 9) nd rfl (Or.inl rfl) (pe_op op_add pe_int (pe_call GD (hr.mono (by decide)) rfl mD kD bD .nil pass0 (pa_cons (pv 0) (pa_cons (pe_callB (call_min2 rfl) (by rfl) M.min (by decide +kernel) (pa_cons pe_int (pa_cons (pe_callB call_len_seq (by rfl) M.len PySem.boot_len (pa_cons (pv 3) pa_nil)) pa_nil))) pa_nil)))))) pss_nil)))
        (pss_one (ps_if (PW.pt (pw_and (pt_cmpR op_le (pv 9) (pe_callB call_len_seq (by rfl) M.len PySem.boot_len (pa_cons (pv 3) pa_nil)) (nomark _)) (pw_and (pt_cmpR op_lt (pe_callB (cr_max rfl) (by rfl) M.max (by decide +kernel) (pa_cons (pe_slice sl_list (pv 4) (po_some (pe_un un_neg (pv 9))) po_none) pa_nil)) pe_int (nomark _)) (pw_and1 (pt_cmpR op_le (pe_op op_add (pe_callB (cr_sum rfl) (by rfl) M.sum (by decide +kernel) (pa_cons (pv 5) pa_nil)) (pe_op op_mul pe_int (pe_callB (cr_sum rfl) (by rfl) M.sum (by decide +kernel) (pa_cons (pe_slice sl_list (pv 5) (po_some (pe_un un_neg (pv 9))) po_none) pa_nil)))) pe_int (nomark _)))))) (pss_cons (ps_expr (pe_bm PySem.F.plainAttrs_list PySem.F.slot_list_append PySem.F.type_list_append mt_append (pv 2) (pa_cons (pe_call GW (hr.mono (by decide)) rfl mW kW bW .nil pass0 (pa_cons (pv 0) (pa_cons (pv 8) (pa_cons (pe_slice sl_list (pv 3) (po_some (pe_un un_neg (pv 9))) po_none) pa_nil)))) pa_nil)))
        (pss_cons (ps_set (i := 10) nd rfl (Or.inl rfl) pe_int)
        (C8.pss_cut (ps_if (pt_cmpR op_eq (pv 8) pe_str (nomark _)) (pss_one (ps_set (i := 10) nd rfl (Or.inl rfl) (pe_op op_add pe_int (pe_ix ix_tup (pe_ix ix_list (pv 2) (pe_un un_neg pe_int) (fun _ _ => rfl)) pe_int (fun _ _ => rfl))))) pss_nil)
        (pss_cons (ps_set (i := 3) nd rfl (Or.inl rfl) (pe_op op_cat (pe_slice sl_list (pv 3) po_none (po_some (pe_un un_neg (pv 9)))) (pe_lst (pa_cons (pe_op op_sub (pe_callB call_len_seq (by rfl) M.len PySem.boot_len (pa_cons (pv 2) pa_nil)) pe_int) pa_nil))))
        (pss_cons (ps_set (i := 4) nd rfl (Or.inl rfl) (pe_op op_cat (pe_slice sl_list (pv 4) po_none (po_some (pe_un un_neg (pv 9)))) (pe_lst (pa_cons (pe_op op_add pe_int (pe_callB (cr_max rfl) (by rfl) M.max (by decide +kernel) (pa_cons (pe_slice sl_list (pv 4) (po_some (pe_un un_neg (pv 9))) po_none) pa_nil))) pa_nil))))
        (pss_one (ps_set (i := 5) nd rfl (Or.inl rfl) (pe_op op_cat (pe_slice sl_list (pv 5) po_none (po_some (pe_un un_neg (pv 9)))) (pe_lst (pa_cons (pe_op op_mul (pv 10) (pe_callB (cr_sum rfl) (by rfl) M.sum (by decide +kernel) (pa_cons (pe_slice sl_list (pv 5) (po_some (pe_un un_neg (pv 9))) po_none) pa_nil))) pa_nil)))))))))) pss_nil))))))))))))
        (pss_cons (ps_for PassesOwn.never rfl (pi_range1 (by rfl) M.range (pa_cons pe_int pa_nil)) (pg_name (i := 6) nd rfl (Or.inl rfl)) (pss_one (ps_if (pt_cmpR op_gt (pe_callB call_len_seq (by rfl) M.len PySem.boot_len (pa_cons (pv 3) pa_nil)) pe_int (nomark _)) (pss_cons (ps_set (i := 9) nd rfl (Or.inl rfl) (pe_callB (call_min2 rfl) (by rfl) M.min (by decide +kernel) (pa_cons pe_int (pa_cons (pe_callB call_len_seq (by rfl) M.len PySem.boot_len (pa_cons (pv 3) pa_nil)) pa_nil))))
        (pss_cons (ps_expr (pe_bm PySem.F.plainAttrs_list PySem.F.slot_list_append PySem.F.type_list_append mt_append (pv 2) (pa_cons (pe_call GW (hr.mono (by decide)) rfl mW kW bW .nil pass0 (pa_cons (pv 0) (pa_cons (pe_ix ix_list (pe_lst (pa_cons pe_str (pa_cons pe_str (pa_cons pe_str (pa_cons pe_str (pa_cons pe_str pa_nil)))))) (pe_call GD (hr.mono (by decide)) rfl mD kD bD .nil pass0 (pa_cons (pv 0) (pa_cons pe_int pa_nil))) (fun _ _ => rfl)) (pa_cons (pe_slice sl_list (pv 3) (po_some (pe_un un_neg (pv 9))) po_none) pa_nil)))) pa_nil)))
        (pss_one (ps_set (i := 3) nd rfl (Or.inl rfl) (pe_op op_cat (pe_slice sl_list (pv 3) po_none (po_some (pe_un un_neg (pv 9)))) (pe_lst (pa_cons (pe_op op_sub (pe_callB call_len_seq (by rfl) M.len PySem.boot_len (pa_cons (pv 2) pa_nil)) pe_int) pa_nil))))))) pss_nil)))
        (pss_one (ps_ret (pe_callTy call_tuple_of (by rfl) M.tuple (by decide +kernel) (pa_cons (pv 2) pa_nil)))))))))), ?_⟩
    refine ⟨zero, fun l1 n1 => ⟨zero, fun l2 n2 => ⟨zero, fun l3 n3 => ⟨zero, fun l4 n4 => ?_⟩⟩⟩⟩
    have s1 := same_new (o := .lst []) n1
    have s2 := same_new (o := .lst []) n2
    have s3 := same_new (o := .lst []) n3
    have s4 := same_new (o := .lst []) n4
    have d12 : l1 ≠ l2 := ne_of_none upd_same n2
    have d13 : l1 ≠ l3 := ne_of_none (s2 _ _ upd_same) n3
    have d23 : l2 ≠ l3 := ne_of_none upd_same n3
    have d14 : l1 ≠ l4 := ne_of_none (s3 _ _ (s2 _ _ upd_same)) n4
    have d24 : l2 ≠ l4 := ne_of_none (s3 _ _ upd_same) n4
    have d34 : l3 ≠ l4 := ne_of_none upd_same n4
    have G0 : Gr K H (upd (upd (upd (upd H l1 (.lst [])) l2 (.lst [])) l3 (.lst [])) l4 (.lst [])) b l1 l2 l3 l4 [] [] [] [] :=
      { B0 := B0, B := (((B0.new n1).new n2).new n3).new n4, U := ((((But.refl b H).new n1).new n2).new n3).new n4, e1 := n1, e2 := s1.free n2, e3 := s1.free (s2.free n3), e4 := s1.free (s2.free (s3.free n4)), ne := ⟨d12, d13, d14, d23, d24, d34⟩, n1 := ⟨[], s4 _ _ (s3 _ _ (s2 _ _ upd_same)), .nil⟩, n2 := s4 _ _ (s3 _ _ upd_same), n3 := s4 _ _ upd_same, n4 := upd_same }
    clear s1 s2 s3 s4 d12 d13 d23 d14 d24 d34 n1 n2 n3 n4
    -- the first turns
    refine ⟨_, rfl, _, rfl, b, j, rfl, G0.B, by omega, fun r H1 r0 r1 B1 U1 => ?_⟩
    have G1 := G0.but B1 U1
    refine ⟨_, _, rfl, rfl, _, rfl, by omega, by omega, ?_⟩
    refine for_range (n := (1 + r).toNat) (fun i σ H' => ∃ (l2 l3 l4 : Addr) (F : List Pl) (v6 v7 v8 v9 v10 : Option V), σ = [some (.ref b), some (.int j), some (.ref l1), some (.ref l2), some (.ref l3), some (.ref l4), v6, v7, v8, v9, v10] ∧
      Gr K H H' b l1 l2 l3 l4 (Pl.flatL 0 F) (roots 0 F) (F.map Pl.depth) (F.map Pl.runs) ∧ Fo F i (3 * i) (50 + i) 6 ∧ (1 ≤ i → F ≠ []))
      ⟨l2, l3, l4, [], none, none, none, none, none, rfl, G1, ⟨by simp, by simp, by simp, by simp, by simp [Pl.sizeL], by simp⟩, by simp⟩ ?_ ?_
    · rintro i σ H2 hi ⟨l2, l3, l4, F, v6, v7, v8, v9, v10, rfl, G, fo, _⟩
      have i10 : i < 10 := by omega
      have fl := fo.len
      have fs := fo.size
      -- a job more
      obtain ⟨vs0, h0, _⟩ := G.n1
      refine ⟨_, rfl, .inl ⟨rfl, _, SqL.of h0⟩, _, rfl, b, rfl, G.B, fun v d g x c fo' H3 jok B3 U3 nv => ?_⟩
      have G := G.but B3 U3
      obtain ⟨vs, h1, nv1⟩ := G.n1
      have vl : vs.length = Pl.sizeL F := nv1.len.trans (flatL_length 0 F)
      refine ⟨l1, vs, v, rfl, rfl, h1, small_line (by omega), ?_⟩
      have G := G.push1 h1 nv
      -- its place
      obtain ⟨vs', h1', nv1'⟩ := G.n1
      have vl' : vs'.length = Pl.sizeL F + 1 := by rw [nv1'.len, List.length_append, flatL_length]; rfl
      refine ⟨_, rfl, .inl ⟨rfl, _, SqL.of G.n2⟩, _, rfl, l1, _, rfl, .inl (SqL.of h1'), _, _, rfl, rfl, l2, _, _, rfl, rfl, G.n2, (by rw [List.length_map, roots_length]; exact small_line (by omega)), ?_⟩
      have G := G.push2 (x := ((vs'.length : Nat) : Int) - 1)
      -- its depth and runs
      refine ⟨_, rfl, .inl ⟨rfl, _, SqL.of G.n3⟩, l3, _, _, rfl, rfl, G.n3, (by rw [List.length_map, List.length_map]; exact small_line (by omega)), ?_⟩
      have G := G.push3 (x := 1)
      refine ⟨_, rfl, .inl ⟨rfl, _, SqL.of G.n4⟩, l4, _, _, rfl, rfl, G.n4, (by rw [List.length_map, List.length_map]; exact small_line (by omega)), ?_⟩
      have G := G.push4 (x := 1)
      have fo := fo.job (by decide) (g := g) jok
      have e1 : Pl.flatL 0 (F ++ [.job d g x c fo']) = Pl.flatL 0 F ++ [Nd.job d g x c fo'] := by rw [flatL_app, flatL_one, Pl.flat]
      have e2 : roots 0 (F ++ [Pl.job d g x c fo']) = roots 0 F ++ [((vs'.length : Nat) : Int) - 1] := by
        rw [roots_app]
        show roots 0 F ++ [((0 + Pl.sizeL F + (Pl.job d g x c fo').size - 1 : Nat) : Int)] = _
        rw [Pl.size, vl', show 0 + Pl.sizeL F + 1 - 1 = Pl.sizeL F by omega]
        exact congrArg (fun z => roots 0 F ++ [z]) (by omega)
      have e3 : (F ++ [Pl.job d g x c fo']).map Pl.depth = F.map Pl.depth ++ [1] := by
        rw [List.map_append]
        show F.map Pl.depth ++ [(Pl.job d g x c fo').depth] = _
        rw [Pl.depth]
      have e4 : (F ++ [Pl.job d g x c fo']).map Pl.runs = F.map Pl.runs ++ [1] := by
        rw [List.map_append]
        show F.map Pl.runs ++ [(Pl.job d g x c fo').runs] = _
        rw [Pl.runs]
      have G := G.cast e1 e2 e3 e4
      have ne : F ++ [.job d g x c fo'] ≠ [] := by simp
      generalize F ++ [.job d g x c fo'] = F at G fo ne
      clear vl vl' nv1' h1' nv1 h1 h0 nv jok fl fs
      -- joined so often
      refine ⟨_, rfl, b, 3, rfl, G.B, by decide, fun r2 H4 r20 r21 B4 U4 => ?_⟩
      have G := G.but B4 U4
      refine ⟨_, rfl, by omega, by omega, ?_⟩
      refine for_range (n := r2.toNat) (fun k σ H' => ∃ (l2 l3 l4 : Addr) (F : List Pl) (v7 v8 v9 v10 : Option V), σ = [some (.ref b), some (.int j), some (.ref l1), some (.ref l2), some (.ref l3), some (.ref l4), some (.int (0 + i)), v7, v8, v9, v10] ∧
        Gr K H H' b l1 l2 l3 l4 (Pl.flatL 0 F) (roots 0 F) (F.map Pl.depth) (F.map Pl.runs) ∧ Fo F (i + 1) (3 * i + 1 + k) (50 + i + 1) 6 ∧ F ≠ [])
        ⟨l2, l3, l4, F, _, _, _, _, rfl, G, fo, ne⟩ ?_ ?_
      · rintro k σ H5 hk ⟨l2, l3, l4, F, v7, v8, v9, v10, rfl, G, fo, ne⟩
        have fl := fo.len
        have fs := fo.size
        -- kind
        refine ⟨eight, fun l nl => ?_⟩
        have B5 := G.B
        have G := G.new (o := .lst [V.str "all", .str "race", .str "any", .str "pool", .str "timeout", .str "sequence", .str "orelse", .str "retry"]) nl
        refine ⟨_, rfl, b, 8, rfl, G.B, by decide, fun r3 H6 r30 r38 B6 U6 => ?_⟩
        have hl := B5.keepL nl U6
        have G := G.but B6 U6
        obtain ⟨z, hz, wz⟩ : ∃ z : Str, atI [V.str "all", .str "race", .str "any", .str "pool", .str "timeout", .str "sequence", .str "orelse", .str "retry"] r3 = some (.str z) ∧ Wd z := by
          have c : r3 = 0 ∨ r3 = 1 ∨ r3 = 2 ∨ r3 = 3 ∨ r3 = 4 ∨ r3 = 5 ∨ r3 = 6 ∨ r3 = 7 := by omega
          rcases c with rfl | rfl | rfl | rfl | rfl | rfl | rfl | rfl
          · exact ⟨_, rfl, .inl rfl⟩
          · exact ⟨_, rfl, .inr (.inl rfl)⟩
          · exact ⟨_, rfl, .inr (.inr (.inl rfl))⟩
          · exact ⟨_, rfl, .inr (.inr (.inr (.inl rfl)))⟩
          · exact ⟨_, rfl, .inr (.inr (.inr (.inr (.inl rfl))))⟩
          · exact ⟨_, rfl, .inr (.inr (.inr (.inr (.inr (.inl rfl)))))⟩
          · exact ⟨_, rfl, .inr (.inr (.inr (.inr (.inr (.inr (.inl rfl))))))⟩
          · exact ⟨_, rfl, .inr (.inr (.inr (.inr (.inr (.inr (.inr rfl))))))⟩
        refine ⟨l, _, _, _, rfl, rfl, SqL.of hl, hz, ?_⟩
        clear hl nl B5 U6 B6 hz
        -- many
        refine ⟨fun σ H' => ∃ m : Int, σ = [some (.ref b), some (.int j), some (.ref l1), some (.ref l2), some (.ref l3), some (.ref l4), some (.int (0 + i)), some (.int (0 + k)), some (.str z), some (.int m), v10] ∧
          Gr K H H' b l1 l2 l3 l4 (Pl.flatL 0 F) (roots 0 F) (F.map Pl.depth) (F.map Pl.runs) ∧ 1 ≤ m ∧ m ≤ 6 ∧ (z = "timeout" ∨ z = "retry" → m = 1) ∧ (z = "orelse" → m = 2), ?_, ?_⟩
        · refine ⟨_, rfl, rfl, _, rfl, ite_str (fun e => ?_) (fun n1 => ?_)⟩
          · refine ⟨2, rfl, G, by decide, by decide, fun h => ?_, fun _ => rfl⟩
            subst e
            exact absurd h (by decide)
          · refine ⟨_, rfl, two, fun t nt => ⟨t, _, rfl, .inr (SqT.of upd_same), rfl, rfl, _, rfl, ite2 (fun c => ?_) (fun c => ?_)⟩⟩
            · have G := G.new (o := .tup [V.str "timeout", .str "retry"]) nt
              refine ⟨_, rfl, _, rfl, l2, _, rfl, .inl (SqL.of G.n2), _, _, rfl, b, _, rfl, G.B, ?_, fun r4 H7 r40 r41 B7 U7 => ?_⟩
              · split <;> (try (rw [List.length_map, roots_length])) <;> first | omega | (have := List.length_pos_iff.mpr ne; omega)
              · refine ⟨_, _, rfl, rfl, 1 + r4, rfl, G.but B7 U7, by omega, ?_, fun h => ?_, fun h => absurd h n1⟩
                · split at r41 <;> omega
                · rcases h with h | h
                  · subst h
                    exact absurd c (by decide)
                  · subst h
                    exact absurd c (by decide)
            · have G := G.new (o := .tup [V.str "timeout", .str "retry"]) nt
              exact ⟨1, rfl, G, by decide, by decide, fun _ => rfl, fun h => absurd h n1⟩
        rintro σ H7 ⟨m, rfl, G, m1, m6, mo, mt⟩
        -- nothing is joined
        have stay : ∀ {H' : Hp} {v10' : Option V}, Gr K H H' b l1 l2 l3 l4 (Pl.flatL 0 F) (roots 0 F) (F.map Pl.depth) (F.map Pl.runs) → ∃ (l2' l3' l4' : Addr) (F' : List Pl) (v7' v8' v9' v10'' : Option V),
            [some (V.ref b), some (V.int j), some (V.ref l1), some (V.ref l2), some (V.ref l3), some (V.ref l4), some (V.int (0 + i)), some (V.int (0 + k)), some (V.str z), some (V.int m), v10'] = [some (.ref b), some (.int j), some (.ref l1), some (.ref l2'), some (.ref l3'), some (.ref l4'), some (.int (0 + i)), v7', v8', v9', v10''] ∧
              Gr K H H' b l1 l2' l3' l4' (Pl.flatL 0 F') (roots 0 F') (F'.map Pl.depth) (F'.map Pl.runs) ∧ Fo F' (i + 1) (3 * i + 1 + (k + 1)) (50 + i + 1) 6 ∧ F' ≠ [] := fun {H' v10'} G' =>
          ⟨l2, l3, l4, F, _, _, _, _, rfl, G', ⟨fo.ok, fo.dp, fo.rn, fo.len, Nat.le_trans fo.size (by omega), fo.sum⟩, ne⟩
        refine ⟨_, rfl, _, rfl, l2, _, rfl, .inl (SqL.of G.n2), _, _, rfl, rfl, _, rfl, ite2 (fun c1 => ?_) (fun _ => iteF (stay G))⟩
        have c1 := of_decide_eq_true c1
        rw [List.length_map, roots_length] at c1
        obtain ⟨A, B, eF, lB⟩ := split_last (F := F) (m := m.toNat) (by omega)
        have mB : m = (B.length : Int) := by omega
        have neB : B ≠ [] := fun e => by rw [e] at lB; simp at lB; omega
        have dD : cutV ((F.map Pl.depth).map V.int) (some (-m)) none = (B.map Pl.depth).map V.int := by
          rw [eF, List.map_append]
          exact cut_tailI (by rw [List.length_map]; exact mB) m1
        have dR : cutV ((F.map Pl.runs).map V.int) (some (-m)) none = (B.map Pl.runs).map V.int := by
          rw [eF, List.map_append]
          exact cut_tailI (by rw [List.length_map]; exact mB) m1
        have dT : cutV ((roots 0 F).map V.int) (some (-m)) none = (roots (Pl.sizeL A) B).map V.int := by
          rw [eF, roots_app, Nat.zero_add]
          exact cut_tailI (by rw [roots_length]; exact mB) m1
        have hD : cutV ((F.map Pl.depth).map V.int) none (some (-m)) = (A.map Pl.depth).map V.int := by
          rw [eF, List.map_append]
          exact cut_headI (by rw [List.length_map]; exact mB) m1
        have hR : cutV ((F.map Pl.runs).map V.int) none (some (-m)) = (A.map Pl.runs).map V.int := by
          rw [eF, List.map_append]
          exact cut_headI (by rw [List.length_map]; exact mB) m1
        have hT : cutV ((roots 0 F).map V.int) none (some (-m)) = (roots 0 A).map V.int := by
          rw [eF, roots_app, Nat.zero_add]
          exact cut_headI (by rw [roots_length]; exact mB) m1
        have lB0 : 0 < (B.map Pl.depth).length := by rw [List.length_map]; exact List.length_pos_iff.mpr neB
        -- not too deep
        refine ⟨_, rfl, _, rfl, _, rfl, _, rfl, l3, _, rfl, SqL.of G.n3, fun p np => ?_⟩
        rw [dD]
        refine ⟨p, B.map Pl.depth, rfl, SqL.of upd_same, lB0, fun mx _ hx => ?_⟩
        have G := G.new (o := .lst ((B.map Pl.depth).map V.int)) np
        refine ⟨_, _, rfl, rfl, _, rfl, ite2 (fun c2 => ?_) (fun _ => iteF (stay G))⟩
        have c2 := of_decide_eq_true c2
        have dB : ∀ p ∈ B, p.depth < 6 := fun p hp => Int.lt_of_le_of_lt (hx _ (List.mem_map_of_mem hp)) c2
        -- not too many runs
        refine ⟨_, rfl, l4, F.map Pl.runs, rfl, SqL.of G.n4, ?_⟩
        refine ⟨_, rfl, _, rfl, _, rfl, _, rfl, l4, _, rfl, SqL.of G.n4, fun p2 np2 => ?_⟩
        rw [dR]
        refine ⟨p2, B.map Pl.runs, rfl, SqL.of upd_same, _, _, rfl, rfl, .inl ⟨by decide, by decide⟩, _, _, rfl, rfl, _, _, rfl, rfl, _, rfl, ?_⟩
        have G := G.new (o := .lst ((B.map Pl.runs).map V.int)) np2
        refine ite2 (fun c3 => ?_) (fun _ => stay G)
        have c3 := of_decide_eq_true c3
        have sumF : (F.map Pl.runs).sum = (A.map Pl.runs).sum + (B.map Pl.runs).sum := by rw [eF, List.map_append, sum_app]
        have sB : 0 ≤ (B.map Pl.runs).sum := sum_nn fun x hx => by
          obtain ⟨p, hp, e⟩ := List.mem_map.mp hx
          rw [← e]
          exact fo.rn p (by rw [eF]; exact List.mem_append_right _ hp)
        -- the whole of them
        obtain ⟨vs0, h0, _⟩ := G.n1
        refine ⟨_, rfl, .inl ⟨rfl, _, SqL.of h0⟩, _, rfl, _, rfl, _, rfl, _, rfl, _, rfl, _, rfl, l2, _, rfl, SqL.of G.n2, fun p3 np3 => ?_⟩
        rw [dT]
        have G := G.new (o := .lst ((roots (Pl.sizeL A) B).map V.int)) np3
        have fit : Fits z (roots (Pl.sizeL A) B).length := ⟨wz, by rw [roots_length]; omega, by rw [roots_length]; omega, fun h => by rw [roots_length]; have := mo h; omega, fun h => by rw [roots_length]; have := mt h; omega⟩
        refine ⟨b, p3, z, _, rfl, G.B, upd_same, fit, fun v kd H8 hk kw t1 t3 tr B8 U8 nv => ?_⟩
        rw [roots_length] at hk
        have G := G.but B8 U8
        obtain ⟨vs, h1, nv1⟩ := G.n1
        have vl : vs.length = Pl.sizeL F := nv1.len.trans (flatL_length 0 F)
        refine ⟨l1, vs, v, rfl, rfl, h1, small_line (by omega), ?_⟩
        have tpv := Tp.lst (o := .lst (vs ++ [v])) h1
        have nv' := nv.tp tpv
        have G := G.push1 h1 nv
        have h1' : (upd H8 l1 (.lst (vs ++ [v]))) l1 = some (.lst (vs ++ [v])) := upd_same
        -- times
        refine ⟨fun σ H' => σ = [some (.ref b), some (.int j), some (.ref l1), some (.ref l2), some (.ref l3), some (.ref l4), some (.int (0 + i)), some (.int (0 + k)), some (.str z), some (.int m), some (.int (times kd))] ∧ H' = upd H8 l1 (.lst (vs ++ [v])), ?_, ?_⟩
        · refine ⟨_, rfl, rfl, _, rfl, ite_str (fun e => ?_) (fun n => ?_)⟩
          · rw [e] at kw
            match kd, kw, hk, nv' with
            | .retry rr dd, _, hk, nv =>
              obtain ⟨a, ii, ei, ev, sq⟩ := nv
              refine ⟨_, rfl, _, rfl, l1, _, _, _, rfl, rfl, SqL.of h1', atI_last vs v, a, _, _, _, ev, rfl, sq, rfl, _, _, rfl, rfl, ?_, rfl⟩
              show [some (V.ref b), some (V.int j), some (V.ref l1), some (V.ref l2), some (V.ref l3), some (V.ref l4), some (V.int (0 + i)), some (V.int (0 + k)), some (V.str z), some (V.int m), some (V.int (1 + rr))] = _
              rw [Int.add_comm 1 rr]
              rfl
            | .plain pk, kw, _, _ => cases pk <;> exact absurd kw (by decide)
            | .pool _, kw, _, _ => exact absurd kw (show ¬ (("pool" : Str) = "retry") by decide)
            | .timeout _, kw, _, _ => exact absurd kw (show ¬ (("timeout" : Str) = "retry") by decide)
            | .orelse, kw, _, _ => exact absurd kw (by decide)
          · rw [tr n]
            exact ⟨rfl, rfl⟩
        rintro σ H9 ⟨rfl, rfl⟩
        -- tops
        obtain ⟨vs2, h2, nv2⟩ := G.n1
        have vl2 : vs2.length = Pl.sizeL F + 1 := by rw [nv2.len, List.length_append, flatL_length]; rfl
        refine ⟨_, rfl, _, rfl, _, rfl, _, rfl, l2, _, rfl, SqL.of G.n2, fun p4 np4 => ?_⟩
        rw [hT]
        have G := G.new (o := .lst ((roots 0 A).map V.int)) np4
        have h4 : (upd (upd H8 l1 (.lst (vs ++ [v]))) p4 (.lst ((roots 0 A).map V.int))) p4 = some (.lst ((roots 0 A).map V.int)) := upd_same
        obtain ⟨vs3, h3, nv3⟩ := G.n1
        have vl3 : vs3.length = Pl.sizeL F + 1 := by rw [nv3.len, List.length_append, flatL_length]; rfl
        refine ⟨_, rfl, l1, _, rfl, .inl (SqL.of h3), _, _, rfl, rfl, one, fun p5 np5 => ?_⟩
        have S5 := same_new (o := .lst [V.int ((vs3.length : Nat) - 1)]) np5
        have G := G.new (o := .lst [V.int ((vs3.length : Nat) - 1)]) np5
        have lA : (roots 0 A).length ≤ 12 := by rw [roots_length]; have := congrArg List.length eF; rw [List.length_append] at this; omega
        refine ⟨p4, p5, _, _, rfl, rfl, S5 _ _ h4, upd_same, (by rw [List.length_map]; exact Nat.le_of_lt (small_line (by simp only [List.length_singleton]; omega))), fun p6 np6 => ?_⟩
        have G := G.mov2 (T' := roots 0 A ++ [((vs3.length : Nat) : Int) - 1]) np6 (by rw [List.map_append] <;> rfl)
        -- deep
        refine ⟨_, rfl, _, rfl, _, rfl, _, rfl, l3, _, rfl, SqL.of G.n3, fun p7 np7 => ?_⟩
        rw [hD]
        have G := G.new (o := .lst ((A.map Pl.depth).map V.int)) np7
        refine ⟨_, rfl, _, rfl, _, rfl, _, rfl, l3, _, rfl, SqL.of G.n3, fun p8 np8 => ?_⟩
        rw [dD]
        refine ⟨p8, B.map Pl.depth, rfl, SqL.of upd_same, lB0, fun my hmy hy => ⟨_, _, rfl, rfl, one, fun p9 np9 => ?_⟩⟩
        have S8 := same_new (o := .lst ((B.map Pl.depth).map V.int)) np8
        have S9 := same_new (o := .lst [V.int (1 + my)]) np9
        have G := (G.new (o := .lst ((B.map Pl.depth).map V.int)) np8).new (o := .lst [V.int (1 + my)]) np9
        have lA2 : A.length ≤ 12 := by rw [roots_length] at lA; exact lA
        refine ⟨p7, p9, _, _, rfl, rfl, S9 _ _ (S8 _ _ upd_same), upd_same, (by rw [List.length_map, List.length_map]; exact Nat.le_of_lt (small_line (by simp only [List.length_singleton]; omega))), fun p10 np10 => ?_⟩
        have G := G.mov3 (T' := A.map Pl.depth ++ [1 + my]) np10 (by rw [List.map_append] <;> rfl)
        -- runs
        refine ⟨_, rfl, _, rfl, _, rfl, _, rfl, l4, _, rfl, SqL.of G.n4, fun p11 np11 => ?_⟩
        rw [hR]
        have G := G.new (o := .lst ((A.map Pl.runs).map V.int)) np11
        refine ⟨_, rfl, _, rfl, _, rfl, _, rfl, _, rfl, l4, _, rfl, SqL.of G.n4, fun p12 np12 => ?_⟩
        rw [dR]
        refine ⟨p12, B.map Pl.runs, rfl, SqL.of upd_same, _, _, rfl, rfl, .inl ⟨by omega, by omega⟩, one, fun p13 np13 => ?_⟩
        have S12 := same_new (o := .lst ((B.map Pl.runs).map V.int)) np12
        have S13 := same_new (o := .lst [V.int (times kd * (B.map Pl.runs).sum)]) np13
        have G := (G.new (o := .lst ((B.map Pl.runs).map V.int)) np12).new (o := .lst [V.int (times kd * (B.map Pl.runs).sum)]) np13
        refine ⟨p11, p13, _, _, rfl, rfl, S13 _ _ (S12 _ _ upd_same), upd_same, (by rw [List.length_map, List.length_map]; exact Nat.le_of_lt (small_line (by simp only [List.length_singleton]; omega))), fun p14 np14 => ?_⟩
        have G := G.mov4 (T' := A.map Pl.runs ++ [times kd * (B.map Pl.runs).sum]) np14 (by rw [List.map_append] <;> rfl)
        have my0 : 0 ≤ my := by
          obtain ⟨p, _, e⟩ := List.mem_map.mp hmy
          have := depth_pos p
          omega
        have hm3 : times kd * (B.map Pl.runs).sum ≤ 3 * (B.map Pl.runs).sum := Int.mul_le_mul_of_nonneg_right t3 sB
        rw [eF] at fo
        have fo' := fo.join hk t1 neB dB (Int.le_refl 6) (r' := 50 + i + 1) (by omega)
        refine ⟨p6, p10, p14, A ++ [.node kd B], _, _, _, _, rfl, G.cast (by rw [flatL_join, eF]) ?_ ?_ ?_, fo', by simp⟩
        · rw [roots_join, ← eF, vl3]
          exact congrArg (fun z => roots 0 A ++ [z]) (by omega)
        · rw [List.map_append]
          show A.map Pl.depth ++ [(Pl.node kd B).depth] = _
          rw [Pl.depth, depthL_map, maxI_eq hmy hy my0]
        · rw [List.map_append]
          show A.map Pl.runs ++ [(Pl.node kd B).runs] = _
          rw [Pl.runs, runsL_map]
      · rintro σ H5 ⟨l2, l3, l4, F, v7, v8, v9, v10, rfl, G, fo, ne⟩
        exact ⟨l2, l3, l4, F, _, _, _, _, _, rfl, G, ⟨fo.ok, fo.dp, fo.rn, fo.len, Nat.le_trans fo.size (by omega), Int.le_trans fo.sum (by omega)⟩, fun _ => ne⟩
    · rintro σ H2 ⟨l2, l3, l4, F, v6, v7, v8, v9, v10, rfl, G, fo, ne⟩
      have ne := ne (by omega)
      have i10 : (1 + r).toNat ≤ 10 := by omega
      -- the last turns
      refine ⟨3, rfl, by decide, by decide, ?_⟩
      refine for_range (n := 3) (fun t σ H' => ∃ (l2 : Addr) (F : List Pl) (D R : List Int) (v6 v7 v8 v9 v10 : Option V), σ = [some (.ref b), some (.int j), some (.ref l1), some (.ref l2), some (.ref l3), some (.ref l4), v6, v7, v8, v9, v10] ∧
        Gr K H H' b l1 l2 l3 l4 (Pl.flatL 0 F) (roots 0 F) D R ∧ Fo F (nB t) (30 + t) 60 (dB t) ∧ F ≠ [])
        ⟨l2, F, _, _, _, _, _, _, _, rfl, G, ⟨fo.ok, fo.dp, fo.rn, Nat.le_trans fo.len i10, Nat.le_trans fo.size (by omega), Int.le_trans fo.sum (by omega)⟩, ne⟩ ?_ ?_
      · rintro t σ H3 ht ⟨l2, F, D, R, v6, v7, v8, v9, v10, rfl, G, fo, ne⟩
        have fl : F.length ≤ 10 := Nat.le_trans fo.len (nB_le t)
        have fs := fo.size
        have ne1 := List.length_pos_iff.mpr ne
        refine ⟨_, rfl, l2, _, rfl, .inl (SqL.of G.n2), _, _, rfl, rfl, _, rfl, ite2 (fun c => ?_) (fun c => ?_)⟩
        · have c := of_decide_eq_true c
          rw [List.length_map, roots_length] at c
          have t2 : t ≤ 1 := nB_one (by have h := fo.len; omega)
          -- many
          refine ⟨_, rfl, l2, _, rfl, .inl (SqL.of G.n2), _, _, rfl, ?_⟩
          obtain ⟨m, em⟩ : ∃ m : Int, (if (((roots 0 F).map V.int).length : Int) < 6 then (((roots 0 F).map V.int).length : Int) else 6) = m := ⟨_, rfl⟩
          rw [em]
          rw [List.length_map, roots_length] at em
          have m1 : 1 ≤ m ∧ m ≤ 6 ∧ m ≤ F.length ∧ (m = F.length ∨ m = 6) := by
            split at em <;> omega
          obtain ⟨m1, m6, mF, mm⟩ := m1
          obtain ⟨A, B, eF, lB⟩ := split_last (F := F) (m := m.toNat) (by omega)
          have mB : m = (B.length : Int) := by omega
          have neB : B ≠ [] := fun e => by rw [e] at lB; simp at lB; omega
          have lAB : A.length + B.length = F.length := by rw [eF, List.length_append]
          have dT : cutV ((roots 0 F).map V.int) (some (-m)) none = (roots (Pl.sizeL A) B).map V.int := by
            rw [eF, roots_app, Nat.zero_add]
            exact cut_tailI (by rw [roots_length]; exact mB) m1
          have hT : cutV ((roots 0 F).map V.int) none (some (-m)) = (roots 0 A).map V.int := by
            rw [eF, roots_app, Nat.zero_add]
            exact cut_headI (by rw [roots_length]; exact mB) m1
          -- the whole of them
          obtain ⟨vs0, h0, _⟩ := G.n1
          refine ⟨_, rfl, .inl ⟨rfl, _, SqL.of h0⟩, _, rfl, five, fun l nl => ?_⟩
          have B5 := G.B
          have G := G.new (o := .lst [V.str "all", .str "race", .str "any", .str "pool", .str "sequence"]) nl
          refine ⟨_, rfl, b, 5, rfl, G.B, by decide, fun r3 H6 r30 r38 B6 U6 => ?_⟩
          have hl := B5.keepL nl U6
          have G := G.but B6 U6
          obtain ⟨z, hz, wz, n1, n2, n3⟩ : ∃ z : Str, atI [V.str "all", .str "race", .str "any", .str "pool", .str "sequence"] r3 = some (.str z) ∧ Wd z ∧ z ≠ "timeout" ∧ z ≠ "retry" ∧ z ≠ "orelse" := by
            have c : r3 = 0 ∨ r3 = 1 ∨ r3 = 2 ∨ r3 = 3 ∨ r3 = 4 := by omega
            rcases c with rfl | rfl | rfl | rfl | rfl
            · exact ⟨_, rfl, .inl rfl, by decide, by decide, by decide⟩
            · exact ⟨_, rfl, .inr (.inl rfl), by decide, by decide, by decide⟩
            · exact ⟨_, rfl, .inr (.inr (.inl rfl)), by decide, by decide, by decide⟩
            · exact ⟨_, rfl, .inr (.inr (.inr (.inl rfl))), by decide, by decide, by decide⟩
            · exact ⟨_, rfl, .inr (.inr (.inr (.inr (.inr (.inl rfl))))), by decide, by decide, by decide⟩
          refine ⟨l, _, _, _, rfl, rfl, SqL.of hl, hz, ?_⟩
          refine ⟨_, rfl, _, rfl, _, rfl, _, rfl, l2, _, rfl, SqL.of G.n2, fun p3 np3 => ?_⟩
          rw [dT]
          have G := G.new (o := .lst ((roots (Pl.sizeL A) B).map V.int)) np3
          have fit : Fits z (roots (Pl.sizeL A) B).length := ⟨wz, by rw [roots_length]; omega, by rw [roots_length]; omega, fun h => (h.elim (fun e => absurd e n1) fun e => absurd e n2), fun h => absurd h n3⟩
          refine ⟨b, p3, z, _, rfl, G.B, upd_same, fit, fun v kd H8 hk kw t1 t3 tr B8 U8 nv => ?_⟩
          rw [roots_length] at hk
          have G := G.but B8 U8
          obtain ⟨vs, h1, nv1⟩ := G.n1
          have vl : vs.length = Pl.sizeL F := nv1.len.trans (flatL_length 0 F)
          refine ⟨l1, vs, v, rfl, rfl, h1, small_line (by omega), ?_⟩
          have G := G.push1 h1 nv
          -- tops
          obtain ⟨vs2, h2, nv2⟩ := G.n1
          refine ⟨_, rfl, _, rfl, _, rfl, _, rfl, l2, _, rfl, SqL.of G.n2, fun p4 np4 => ?_⟩
          rw [hT]
          have G := G.new (o := .lst ((roots 0 A).map V.int)) np4
          have h4 : (upd (upd H8 l1 (.lst (vs ++ [v]))) p4 (.lst ((roots 0 A).map V.int))) p4 = some (.lst ((roots 0 A).map V.int)) := upd_same
          obtain ⟨vs3, h3, nv3⟩ := G.n1
          have vl3 : vs3.length = Pl.sizeL F + 1 := by rw [nv3.len, List.length_append, flatL_length]; rfl
          refine ⟨_, rfl, l1, _, rfl, .inl (SqL.of h3), _, _, rfl, rfl, one, fun p5 np5 => ?_⟩
          have S5 := same_new (o := .lst [V.int ((vs3.length : Nat) - 1)]) np5
          have G := G.new (o := .lst [V.int ((vs3.length : Nat) - 1)]) np5
          have lA : (roots 0 A).length ≤ 12 := by rw [roots_length]; omega
          refine ⟨p4, p5, _, _, rfl, rfl, S5 _ _ h4, upd_same, (by rw [List.length_map]; exact Nat.le_of_lt (small_line (by simp only [List.length_singleton]; omega))), fun p6 np6 => ?_⟩
          have G := G.mov2 (T' := roots 0 A ++ [((vs3.length : Nat) : Int) - 1]) np6 (by rw [List.map_append] <;> rfl)
          have tk : times kd = 1 := tr n2
          rw [eF] at fo
          have fo' := fo.join hk t1 neB (d' := dB (t + 1)) (fun p hp => Int.lt_of_le_of_lt (fo.dp p (List.mem_append_right _ hp)) (dB_lt t2)) (dB_le t) (r' := 60)
            (by have h := fo.sum; rw [List.map_append, sum_app] at h; rw [tk]; omega)
          have ll : A.length + 1 ≤ nB (t + 1) := nB_next (c := B.length) t2 (by have h := fo.len; rw [List.length_append] at h; exact h) (by omega)
          refine ⟨p6, A ++ [.node kd B], D, R, _, _, _, _, _, rfl, G.cast (by rw [flatL_join, eF]) ?_ rfl rfl, ⟨fo'.ok, fo'.dp, fo'.rn, by simpa using ll, fo'.size, fo'.sum⟩, by simp⟩
          · rw [roots_join, ← eF, vl3]
            exact congrArg (fun z => roots 0 A ++ [z]) (by omega)
        · have c : ¬ 1 < (((roots 0 F).map V.int).length : Int) := fun y => c (decide_eq_true y)
          rw [List.length_map, roots_length] at c
          have np := nB_pos (t + 1)
          exact ⟨l2, F, D, R, _, _, _, _, _, rfl, G, ⟨fo.ok, fun p hp => Int.le_trans (fo.dp p hp) (dB_le t), fo.rn, by omega, Nat.le_trans fo.size (by omega), fo.sum⟩, ne⟩
      · rintro σ H3 ⟨l2, F, D, R, v6, v7, v8, v9, v10, rfl, G, fo, ne⟩
        have fl : F.length ≤ 1 := fo.len
        obtain ⟨p, rfl⟩ : ∃ p, F = [p] := List.length_eq_one_iff.mp (by have := List.length_pos_iff.mpr ne; omega)
        obtain ⟨vs, h1, nv1⟩ := G.n1
        refine ⟨_, rfl, l1, _, rfl, .inl ⟨SqL.of h1, fun u hu => ?_⟩⟩
        have hm : p ∈ [p] := List.mem_singleton.mpr rfl
        have wp : Whole p := ⟨fo.ok p hm, fo.dp p hm, by have h := fo.sum; simpa using h, by have h := fo.size; rw [sizeL_one] at h; omega⟩
        rw [flatL_one] at nv1
        exact q _ p _ wp (G.B.new hu) (G.U.new hu) ⟨u, vs, rfl, SqT.of upd_same, nv1.tp (Tp.same (same_new hu))⟩
end
end LB

set_option maxRecDepth 100000
set_option maxHeartbeats 2000000
namespace LB
/-! ### a plan's nodes: parts, bounds, rows -/
def Nd.parts : Nd → List Int
  | .job .. => []
  | .whole _ ps => ps
def NdOk : Nd → Prop
  | .job d _ v c f => JobOk d v c f
  | .whole k ps => KdOk k ps.length
/-- every part stands ahead of its node -/
def Back (o : Nat) (ns : List Nd) : Prop := ∀ (i : Nat) (n : Nd), ns[i]? = some n → ∀ q ∈ n.parts, 0 ≤ q ∧ q < ((o + i : Nat) : Int)
theorem roots_in : ∀ (ps : List Pl) (o : Nat), ∀ q ∈ roots o ps, (o : Int) ≤ q ∧ q < ((o + Pl.sizeL ps : Nat) : Int)
  | [], o, q, h => nomatch h
  | p :: r, o, q, h => by
    have hp := size_pos p
    rcases List.mem_cons.mp h with e | h
    · rw [e, Pl.sizeL]; omega
    · have ih := roots_in r (o + p.size) q h
      rw [Pl.sizeL]
      omega
theorem back_app {o : Nat} {a c : List Nd} (ha : Back o a) (hc : Back (o + a.length) c) : Back o (a ++ c) := by
  intro i n h q hq
  by_cases z : i < a.length
  · rw [List.getElem?_append_left z] at h
    exact ha i n h q hq
  · rw [List.getElem?_append_right (by omega)] at h
    have := hc _ n h q hq
    omega
mutual
theorem flat_back : ∀ (p : Pl) (o : Nat), Back o (p.flat o)
  | .job d g v c f, o => by
    intro i n h q hq
    rw [Pl.flat] at h
    match i, h with
    | 0, h =>
      have e : Nd.job d g v c f = n := by simpa using h
      rw [← e] at hq
      exact nomatch hq
    | i + 1, h => simp at h
  | .node k ps, o => by
    rw [Pl.flat]
    refine back_app (flatL_back ps o) ?_
    rw [flatL_length]
    intro i n h q hq
    match i, h with
    | 0, h =>
      have e : Nd.whole k (roots o ps) = n := by simpa using h
      rw [← e] at hq
      have h3 := roots_in ps o q hq
      have h4 : ((o + Pl.sizeL ps + 0 : Nat) : Int) = ((o + Pl.sizeL ps : Nat) : Int) := rfl
      exact ⟨Int.le_trans (Int.natCast_nonneg o) h3.1, by rw [h4]; exact h3.2⟩
    | i + 1, h => simp at h
theorem flatL_back : ∀ (ps : List Pl) (o : Nat), Back o (Pl.flatL o ps)
  | [], o => by intro i n h; simp [Pl.flatL] at h
  | p :: r, o => by
    rw [Pl.flatL]
    refine back_app (flat_back p o) ?_
    rw [flat_length]
    exact flatL_back r (o + p.size)
end
mutual
theorem flat_ok : ∀ (p : Pl) (o : Nat), OkP p → ∀ n ∈ p.flat o, NdOk n
  | .job d g v c f, o, h, n, hn => by
    cases h with
    | job h =>
      rw [Pl.flat] at hn
      rw [List.mem_singleton.mp hn]
      exact h
  | .node k ps, o, h, n, hn => by
    cases h with
    | node hk h =>
      rw [Pl.flat] at hn
      rcases List.mem_append.mp hn with q | q
      · exact flatL_ok ps o h n q
      · rw [List.mem_singleton.mp q]
        show KdOk k (roots o ps).length
        rw [roots_length]
        exact hk
theorem flatL_ok : ∀ (ps : List Pl) (o : Nat), (∀ p ∈ ps, OkP p) → ∀ n ∈ Pl.flatL o ps, NdOk n
  | [], o, h, n, hn => by simp [Pl.flatL] at hn
  | p :: r, o, h, n, hn => by
    rw [Pl.flatL] at hn
    rcases List.mem_append.mp hn with q | q
    · exact flat_ok p o (h p (List.mem_cons_self ..)) n q
    · exact flatL_ok r (o + p.size) (fun q hq => h q (List.mem_cons_of_mem _ hq)) n q
end
theorem KdOk.pos {k : Kd} {n : Nat} (h : KdOk k n) : 1 ≤ n := by
  cases k with
  | plain _ => exact h.1
  | pool _ => exact h.1
  | timeout _ => have := h.1; omega
  | orelse => have e : n = 2 := h; omega
  | retry _ _ => have := h.1; omega
theorem KdOk.times {k : Kd} {n : Nat} (h : KdOk k n) : 1 ≤ times k ∧ times k ≤ 6 := by
  cases k with
  | retry r d =>
    obtain ⟨_, h1, h2, _⟩ := h
    show 1 ≤ r + 1 ∧ r + 1 ≤ 6
    omega
  | plain _ => exact ⟨(by decide : (1 : Int) ≤ 1), (by decide : (1 : Int) ≤ 6)⟩
  | pool _ => exact ⟨(by decide : (1 : Int) ≤ 1), (by decide : (1 : Int) ≤ 6)⟩
  | timeout _ => exact ⟨(by decide : (1 : Int) ≤ 1), (by decide : (1 : Int) ≤ 6)⟩
  | orelse => exact ⟨(by decide : (1 : Int) ≤ 1), (by decide : (1 : Int) ≤ 6)⟩
/-- there is a job -/
theorem cleans_ne : ∀ (p : Pl) (o : Nat), OkP p → cleans (p.flat o) ≠ []
  | .job .., o, h => by simp [Pl.flat, cleans, Nd.clean?]
  | .node k ps, o, h => by
    cases h with
    | node hk h =>
      match ps, h, hk with
      | [], _, hk => have := hk.pos; simp at this
      | p :: r, h, _ =>
        have ih := cleans_ne p o (h p (List.mem_cons_self ..))
        rw [Pl.flat, Pl.flatL]
        unfold cleans
        rw [List.append_assoc, List.filterMap_append]
        intro e
        exact ih (List.append_eq_nil_iff.mp e).1
/-- the greatest cleanup -/
theorem clean_max {p : Pl} {o : Nat} (h : OkP p) {m : Int} (hm : m ∈ cleans (p.flat o)) (hx : ∀ x ∈ cleans (p.flat o), x ≤ m) : p.clean = m := by
  rw [(clean_flat p o h).1]
  refine maxI_eq hm hx ?_
  obtain ⟨n, hn, e⟩ := List.mem_filterMap.mp hm
  cases n with
  | job d g v c f =>
    have ok := flat_ok p o h _ hn
    have e : c = m := Option.some.inj e
    rw [← e]
    exact ok.2.2.1.1
  | whole k ps => cases e
theorem cleans_bound {p : Pl} {o : Nat} (h : OkP p) {m : Int} (hm : m ∈ cleans (p.flat o)) : 0 ≤ m ∧ m ≤ 100 := by
  obtain ⟨n, hn, e⟩ := List.mem_filterMap.mp hm
  cases n with
  | job d g v c f =>
    have ok := flat_ok p o h _ hn
    have e : c = m := Option.some.inj e
    rw [← e]
    exact ok.2.2.1
  | whole k ps => cases e
/-- the rows of a row of nodes -/
theorem rowsOn_length (rs : List Row) (ns : List Nd) : (rowsOn rs ns).length = rs.length + ns.length := by
  induction ns generalizing rs with
  | nil => rfl
  | cons n r ih =>
    show (rowsOn (rs ++ [rowAt rs n]) r).length = _
    rw [ih]
    simp
    omega
theorem take_succ {α : Type} {l : List α} {i : Nat} {x : α} (h : l[i]? = some x) : l.take (i + 1) = l.take i ++ [x] := by
  rw [List.take_add_one, h]
  rfl
theorem rowsOn_take {ns : List Nd} {i : Nat} {n : Nd} (h : ns[i]? = some n) : rowsOn [] (ns.take (i + 1)) = rowsOn [] (ns.take i) ++ [rowAt (rowsOn [] (ns.take i)) n] := by
  rw [take_succ h, rowsOn_app]
  rfl
theorem deep_pos : ∀ (ns : List Nd) (rs : List Row), (∀ r ∈ rs, 1 ≤ r.deep) → ∀ r ∈ rowsOn rs ns, 1 ≤ r.deep
  | [], rs, h => h
  | n :: t, rs, h => by
    refine deep_pos t (rs ++ [rowAt rs n]) fun r hr => ?_
    rcases List.mem_append.mp hr with q | q
    · exact h r q
    · rw [List.mem_singleton.mp q]
      cases n with
      | job => exact Int.le_refl 1
      | whole k ps =>
        show 1 ≤ 1 + maxI _
        have := maxI_nn (ps.map fun i => (rowN rs i).deep)
        omega
theorem rowN_mem {rs : List Row} {q : Int} (h0 : 0 ≤ q) (h1 : q < (rs.length : Int)) : rowN rs q ∈ rs ∧ rs[q.toNat]? = some (rowN rs q) := by
  have h : q.toNat < rs.length := by omega
  have e : rowN rs q = rs[q.toNat] := by
    unfold rowN
    rw [List.getD_eq_getElem?_getD, List.getElem?_eq_getElem h] <;> rfl
  rw [e]
  exact ⟨List.getElem_mem h, List.getElem?_eq_getElem h⟩
theorem rows_flat (p : Pl) : rowsOn [] (p.flat 0) = p.rows := by
  have h := rowsOn_flat p [] 0 rfl
  rw [h] <;> rfl
mutual
theorem rows_deep : ∀ (p : Pl), ∀ r ∈ p.rows, 1 ≤ r.deep ∧ r.deep ≤ p.depth
  | .job d g v c f, r, hr => by
    rw [Pl.rows] at hr
    rw [List.mem_singleton.mp hr]
    show 1 ≤ (Pl.job d g v c f).depth ∧ (Pl.job d g v c f).depth ≤ _
    rw [Pl.depth]
    decide
  | .node k ps, r, hr => by
    rw [Pl.rows] at hr
    rcases List.mem_append.mp hr with q | q
    · obtain ⟨h1, x, hx, h2⟩ := rowsL_deep ps r q
      refine ⟨h1, ?_⟩
      rw [Pl.depth, depthL_map]
      have := le_maxI (List.mem_map_of_mem (f := Pl.depth) hx)
      omega
    · rw [List.mem_singleton.mp q]
      show 1 ≤ (Pl.node k ps).depth ∧ (Pl.node k ps).depth ≤ _
      refine ⟨?_, Int.le_refl _⟩
      rw [Pl.depth]
      have := maxI_nn (Pl.depthL ps)
      omega
theorem rowsL_deep : ∀ (ps : List Pl), ∀ r ∈ Pl.rowsL ps, 1 ≤ r.deep ∧ ∃ x ∈ ps, r.deep ≤ x.depth
  | [], r, hr => by simp [Pl.rowsL] at hr
  | p :: t, r, hr => by
    rw [Pl.rowsL] at hr
    rcases List.mem_append.mp hr with q | q
    · obtain ⟨h1, h2⟩ := rows_deep p r q
      exact ⟨h1, p, List.mem_cons_self .., h2⟩
    · obtain ⟨h1, x, hx, h2⟩ := rowsL_deep t r q
      exact ⟨h1, x, List.mem_cons_of_mem _ hx, h2⟩
end
/-! ### folds -/
theorem fold_deep : ∀ (l : List Int) (a : Int), l.foldl (fun x d => max x (d + 1)) (1 + a) = 1 + l.foldl max a
  | [], a => rfl
  | d :: r, a => by
    show r.foldl _ (max (1 + a) (d + 1)) = 1 + r.foldl max (max a d)
    rw [show max (1 + a) (d + 1) = 1 + max a d by omega]
    exact fold_deep r (max a d)
def isJob : Nd → Bool
  | .job .. => true
  | .whole .. => false
end LB

set_option maxRecDepth 100000
set_option maxHeartbeats 2000000
namespace LB
open PySem PySem.Spec PyProof.Rows L2
/-! ### max(xs, default=d) of a list of ints -/
theorem reads_ints {h : Heap} : ∀ {its : List Value} {ns : List Int}, IntsAre its ns → ReadsAll h its (ns.map PyData.int) []
  | _, _, .nil => .nil
  | _, _, .cons n t r => ReadsAll.cons (as := []) (bs := []) (.int n t) (reads_ints r)
theorem foldl_max_mem : ∀ (l : List Int) (x : Int), l.foldl max x = x ∨ l.foldl max x ∈ l
  | [], x => .inl rfl
  | y :: r, x => by
    rcases foldl_max_mem r (max x y) with h | h
    · by_cases c : x ≤ y
      · exact .inr (by show r.foldl max (max x y) ∈ y :: r; rw [h, Int.max_eq_right c]; exact List.mem_cons_self ..)
      · exact .inl (by show r.foldl max (max x y) = x; rw [h, Int.max_eq_left (by omega)])
    · exact .inr (List.mem_cons_of_mem _ h)
theorem foldl_max_ge : ∀ (l : List Int) (x : Int), x ≤ l.foldl max x ∧ ∀ y ∈ l, y ≤ l.foldl max x
  | [], x => ⟨Int.le_refl _, fun y h => nomatch h⟩
  | y :: r, x => by
    obtain ⟨h1, h2⟩ := foldl_max_ge r (max x y)
    refine ⟨Int.le_trans (Int.le_max_left x y) h1, fun z hz => ?_⟩
    rcases List.mem_cons.mp hz with e | hz
    · rw [e]; exact Int.le_trans (Int.le_max_right x y) h1
    · exact h2 z hz
def rMaxD (K : PySem.W.Frag) : List V → List V → Hp → VK → Prop := fun xs zs H Q => ∃ (a : Addr) (ns : List Int) (d : Int), xs = [.ref a] ∧ zs = [.int d] ∧ SqL K H a (ns.map V.int) ∧ (ns = [] → Q (.int d) H) ∧ ∀ m, m ∈ ns → (∀ y ∈ ns, y ≤ m) → Q (.int m) H
theorem call_maxD {X : Cx} (hc : X.calm = true) (hu : X.A.units + 64 < cLine) : CallRK X (.builtin "max") ["default"] (rMaxD X.K) := by
  intro pins s σ H xs zs us ws Q I rx rz h
  obtain ⟨a, ns, d, rfl, rfl, hs, q0, q1⟩ := h
  obtain ⟨its, rv, hl, _⟩ := I.list hs
  rw [Vals.ref1 rx]
  match ws, rz with
  | [u], .cons ru .nil =>
    obtain ⟨t, rfl⟩ := ru
    have al : PySem.W.AlikeAll (ns.map PyData.int) := by
      refine ⟨fun x hx y hy => ?_, fun x hx e => ?_⟩
      · obtain ⟨i, _, rfl⟩ := List.mem_map.mp hx
        obtain ⟨j, _, rfl⟩ := List.mem_map.mp hy
        simp [PySem.W.alike]
      · obtain ⟨i, _, rfl⟩ := List.mem_map.mp hx
        cases e
    have dp : ∀ l : List Int, PyData.depthAll (l.map PyData.int) = 0 := by
      intro l
      induction l with
      | nil => rfl
      | cons x r ih =>
        show max 0 (PyData.depthAll (r.map PyData.int)) = 0
        rw [ih] <;> rfl
    show wpAny (model X.prog X.w) X.A (call (.builtin "max") [.ref a] [(Str.ofString "default", .int d t)]) _ _ _
    refine PySem.W.max_list_default (I.ok.hd hc) hl.isList (by rw [List.toList_toArray]; exact reads_ints rv.ints) al (by rw [dp]; omega) (fun e h' tk hk => ?_) (fun y ys i v h' tk bs e hi r hk => ?_)
    · exact ⟨.int d, H, I.kept hk, ⟨t, rfl⟩, q0 (List.map_eq_nil_iff.mp e)⟩
    · match ns, e with
      | n :: ms, e =>
        injection e with e1 e2
        subst e1 e2
        rw [PySem.W.maxD_ints] at r
        cases r with
        | int _ t' =>
          refine ⟨.int _, H, I.kept hk, ⟨_, rfl⟩, q1 _ ?_ fun y hy => ?_⟩
          · rcases foldl_max_mem ms n with h | h
            · rw [h]; exact List.mem_cons_self ..
            · exact List.mem_cons_of_mem _ h
          · obtain ⟨h1, h2⟩ := foldl_max_ge ms n
            rcases List.mem_cons.mp hy with e | hy
            · rw [e]; exact h1
            · exact h2 y hy
end LB

set_option maxRecDepth 100000
set_option maxHeartbeats 8000000
namespace LB
open PySem PySem.Spec PyProof.Rows L2
/-! ### what is read of a node -/
def Nd.word : Nd → Str
  | .job .. => "job"
  | .whole k _ => k.word
theorem NdAt.head {K : PySem.W.Frag} {H : Hp} {v : V} {n : Nd} (h : NdAt K H v n) : ∃ a xs, v = .ref a ∧ SqT K H a (.str n.word :: xs) := by
  match n, h with
  | .job .., ⟨a, e, q⟩ => exact ⟨a, _, e, q⟩
  | .whole (.plain w) ps, ⟨a, b, e, q, r⟩ => exact ⟨a, _, e, q⟩
  | .whole (.pool n) ps, ⟨a, b, e, q, r⟩ => exact ⟨a, _, e, q⟩
  | .whole (.timeout t) ps, ⟨a, i, e0, e, q⟩ => exact ⟨a, _, e, q⟩
  | .whole .orelse ps, ⟨a, i, j, e0, e, q⟩ => exact ⟨a, _, e, q⟩
  | .whole (.retry r d) ps, ⟨a, i, e0, e, q⟩ => exact ⟨a, _, e, q⟩
theorem atI_head {x : V} {xs : List V} : atI (x :: xs) 0 = some x := atI_nat (j := 0) (v := x) (xs := x :: xs) rfl
theorem pk_ne (w : Pk) : w.word ≠ "job" ∧ w.word ≠ "timeout" ∧ w.word ≠ "retry" ∧ w.word ≠ "orelse" ∧ w.word ≠ "pool" := by
  cases w <;> exact ⟨by decide, by decide, by decide, by decide, by decide⟩
theorem of_job {n : Nd} (e : n.word = "job") : ∃ d g v c f, n = .job d g v c f := by
  match n, e with
  | .job d g v c f, _ => exact ⟨d, g, v, c, f, rfl⟩
  | .whole (.plain w) ps, e => exact absurd e (pk_ne w).1
  | .whole (.pool n) ps, e => exact absurd e (show ¬ (("pool" : Str) = "job") by decide)
  | .whole (.timeout t) ps, e => exact absurd e (show ¬ (("timeout" : Str) = "job") by decide)
  | .whole .orelse ps, e => exact absurd e (show ¬ (("orelse" : Str) = "job") by decide)
  | .whole (.retry r d) ps, e => exact absurd e (show ¬ (("retry" : Str) = "job") by decide)
theorem isJob_word (n : Nd) : decide (V.str n.word = V.str "job") = isJob n := by
  match n with
  | .job d g v c f => exact decide_eq_true rfl
  | .whole k ps =>
    refine decide_eq_false fun e => ?_
    obtain ⟨_, _, _, _, _, e2⟩ := of_job (V.str.inj e)
    cases e2
/-- the wholes that are told by their last item -/
theorem of_rest {n : Nd} (h1 : n.word ≠ "job") (h2 : n.word ≠ "timeout") (h3 : n.word ≠ "retry") (h4 : n.word ≠ "orelse") {K : PySem.W.Frag} {H : Hp} {v : V} (h : NdAt K H v n) :
    ∃ a b xs, v = .ref a ∧ SqT K H a (xs ++ [.ref b]) ∧ SqT K H b (n.parts.map V.int) := by
  match n, h with
  | .job .., _ => exact absurd rfl h1
  | .whole (.plain w) ps, ⟨a, b, e, q, r⟩ => exact ⟨a, b, [_], e, q, r⟩
  | .whole (.pool n) ps, ⟨a, b, e, q, r⟩ => exact ⟨a, b, [_, _], e, q, r⟩
  | .whole (.timeout t) ps, _ => exact absurd rfl h2
  | .whole .orelse ps, _ => exact absurd rfl h4
  | .whole (.retry r d) ps, _ => exact absurd rfl h3
theorem of_one {n : Nd} (h : n.word = "timeout" ∨ n.word = "retry") {K : PySem.W.Frag} {H : Hp} {v : V} (hv : NdAt K H v n) : ∃ a i xs, n.parts = [i] ∧ v = .ref a ∧ SqT K H a (xs ++ [.int i]) := by
  match n, hv with
  | .job .., _ => exact h.elim (fun e => absurd e (show ¬ (("job" : Str) = "timeout") by decide)) fun e => absurd e (show ¬ (("job" : Str) = "retry") by decide)
  | .whole (.plain w) ps, _ => exact h.elim (fun e => absurd e (pk_ne w).2.1) fun e => absurd e (pk_ne w).2.2.1
  | .whole (.pool n) ps, _ => exact h.elim (fun e => absurd e (show ¬ (("pool" : Str) = "timeout") by decide)) fun e => absurd e (show ¬ (("pool" : Str) = "retry") by decide)
  | .whole (.timeout t) ps, ⟨a, i, e0, e, q⟩ => exact ⟨a, i, [_, _], e0, e, q⟩
  | .whole .orelse ps, _ => exact h.elim (fun e => absurd e (show ¬ (("orelse" : Str) = "timeout") by decide)) fun e => absurd e (show ¬ (("orelse" : Str) = "retry") by decide)
  | .whole (.retry r d) ps, ⟨a, i, e0, e, q⟩ => exact ⟨a, i, [_, _, _], e0, e, q⟩
theorem of_timeout {n : Nd} (h : n.word = "timeout") {K : PySem.W.Frag} {H : Hp} {v : V} (hv : NdAt K H v n) : ∃ a i t, n.parts = [i] ∧ v = .ref a ∧ SqT K H a [.str "timeout", .int t, .int i] := by
  match n, hv with
  | .job .., _ => exact absurd h (show ¬ (("job" : Str) = "timeout") by decide)
  | .whole (.plain w) ps, _ => exact absurd h (pk_ne w).2.1
  | .whole (.pool n) ps, _ => exact absurd h (show ¬ (("pool" : Str) = "timeout") by decide)
  | .whole (.timeout t) ps, ⟨a, i, e0, e, q⟩ => exact ⟨a, i, t, e0, e, q⟩
  | .whole .orelse ps, _ => exact absurd h (show ¬ (("orelse" : Str) = "timeout") by decide)
  | .whole (.retry r d) ps, _ => exact absurd h (show ¬ (("retry" : Str) = "timeout") by decide)
theorem of_retry {n : Nd} (h : n.word = "retry") {K : PySem.W.Frag} {H : Hp} {v : V} (hv : NdAt K H v n) : ∃ a i r d, n = .whole (.retry r d) [i] ∧ v = .ref a ∧ SqT K H a [.str "retry", .int r, .int d, .int i] := by
  match n, hv with
  | .job .., _ => exact absurd h (show ¬ (("job" : Str) = "retry") by decide)
  | .whole (.plain w) ps, _ => exact absurd h (pk_ne w).2.2.1
  | .whole (.pool n) ps, _ => exact absurd h (show ¬ (("pool" : Str) = "retry") by decide)
  | .whole (.timeout t) ps, _ => exact absurd h (show ¬ (("timeout" : Str) = "retry") by decide)
  | .whole .orelse ps, _ => exact absurd h (show ¬ (("orelse" : Str) = "retry") by decide)
  | .whole (.retry r d) ps, ⟨a, i, e0, e, q⟩ => exact ⟨a, i, r, d, by rw [e0], e, q⟩
theorem of_orelse {n : Nd} (h : n.word = "orelse") {K : PySem.W.Frag} {H : Hp} {v : V} (hv : NdAt K H v n) : ∃ a i j, n.parts = [i, j] ∧ v = .ref a ∧ SqT K H a [.str "orelse", .int i, .int j] := by
  match n, hv with
  | .job .., _ => exact absurd h (show ¬ (("job" : Str) = "orelse") by decide)
  | .whole (.plain w) ps, _ => exact absurd h (pk_ne w).2.2.2.1
  | .whole (.pool n) ps, _ => exact absurd h (show ¬ (("pool" : Str) = "orelse") by decide)
  | .whole (.timeout t) ps, _ => exact absurd h (show ¬ (("timeout" : Str) = "orelse") by decide)
  | .whole .orelse ps, ⟨a, i, j, e0, e, q⟩ => exact ⟨a, i, j, e0, e, q⟩
  | .whole (.retry r d) ps, _ => exact absurd h (show ¬ (("retry" : Str) = "orelse") by decide)
theorem in_two {x a b : Str} (h : inV (V.str x) [V.str a, V.str b] = true) : a = x ∨ b = x := by
  have h : ((a == x) || ((b == x) || false)) = true := h
  rw [Bool.or_false, Bool.or_eq_true] at h
  exact h.imp (fun e => eq_of_beq e) fun e => eq_of_beq e
theorem in_two_of {x a b : Str} (h : a = x ∨ b = x) : inV (V.str x) [V.str a, V.str b] = true := by
  show ((a == x) || ((b == x) || false)) = true
  rw [Bool.or_false, Bool.or_eq_true]
  exact h.imp (fun e => beq_iff_eq.mpr e) fun e => beq_iff_eq.mpr e
theorem times_else {k : Kd} (h : k.word ≠ "retry") : times k = 1 := by
  cases k with
  | retry r d => exact absurd rfl h
  | _ => rfl
section
variable {P : Program} {w : World} {K : PySem.W.Frag} {mg : Str → Option Value} {base : Heap}
def spParts (K : PySem.W.Frag) : Sp := fun vs H Q _ => ∃ (v : V) (n : Nd), vs = [v] ∧ NdAt K H v n ∧ ∀ (t : Addr) (H' : Hp), Same H H' → SqT K H' t (n.parts.map V.int) → Q (.ref t) H'
theorem scParts : FnScope ["node", "word"] ["node"] (defScope sParts) := ⟨rfl, rfl, rfl, by decide +kernel, rfl, by decide +kernel, by decide +kernel⟩
theorem ok_parts {f : Addr} {fd : FuncData} (F : Fun K "parts_of" "parts_of" sParts f fd) : FnOk P w K mg base CX0 1 f fd ["node"] (spParts K) := by
  refine F.ok scParts (fun vs H Q E h => ?_) (fun cdv A outer s H vs Q E hr h => ?_)
  · obtain ⟨v, n, rfl, _⟩ := h
    rfl
  · obtain ⟨v, n, rfl, hv, q⟩ := h
    have nd := scParts.nd
    have zero : (0 : Nat) ≤ sizeLine := by decide
    have one : (1 : Nat) ≤ sizeLine := by decide
    have two : (2 : Nat) ≤ sizeLine := by decide
    obtain ⟨a, xs, rfl, sq⟩ := hv.head
    refine ⟨_, (pss_cons (ps_set (i := 1) nd rfl (Or.inl rfl) (pe_ix ix_tup (pv 0) pe_int (fun _ _ => rfl)))
        (pss_cons (ps_if (pt_cmpR op_eq (pv 1) pe_str (nomark _)) (pss_one (ps_ret (pe_tup pa_nil))) pss_nil)
        (pss_cons (ps_if (pt_cmpR op_in_seq (pv 1) (pe_tup (pa_cons pe_str (pa_cons pe_str pa_nil))) rfl) (pss_one (ps_ret (pe_tup (pa_cons (pe_ix ix_tup (pv 0) (pe_un un_neg pe_int) (fun _ _ => rfl)) pa_nil)))) pss_nil)
        (pss_cons (ps_if (pt_cmpR op_eq (pv 1) pe_str (nomark _)) (pss_one (ps_ret (pe_tup (pa_cons (pe_ix ix_tup (pv 0) pe_int (fun _ _ => rfl)) (pa_cons (pe_ix ix_tup (pv 0) pe_int (fun _ _ => rfl)) pa_nil))))) pss_nil)
        (pss_one (ps_ret (pe_ix ix_tup (pv 0) (pe_un un_neg pe_int) (fun _ _ => rfl)))))))), ?_⟩
    refine ⟨_, rfl, a, _, _, _, rfl, rfl, sq, atI_head, ?_⟩
    refine ⟨_, rfl, rfl, _, rfl, ite_str (fun e => ?_) (fun n1 => ?_)⟩
    · obtain ⟨_, _, _, _, _, rfl⟩ := of_job e
      exact ⟨zero, fun t nt => q t _ (same_new nt) (SqT.of upd_same)⟩
    refine ⟨_, rfl, two, fun t nt => ⟨t, _, rfl, .inr (SqT.of upd_same), rfl, rfl, _, rfl, ?_⟩⟩
    have S := same_new (o := .tup [V.str "timeout", .str "retry"]) nt
    have hv := hv.tp (Tp.same S)
    refine ite2 (fun c => ?_) (fun c => ?_)
    · have c : n.word = "timeout" ∨ n.word = "retry" := by
        rcases in_two c with h | h
        · exact .inl h.symm
        · exact .inr h.symm
      obtain ⟨a, i, xs, ep, e, sq⟩ := of_one c hv
      cases e
      refine ⟨_, rfl, _, rfl, a, _, _, _, rfl, rfl, sq, atI_last _ _, one, fun u nu => ?_⟩
      refine q u _ (S.trans (same_new nu)) ?_
      rw [ep]
      exact SqT.of upd_same
    · have c : n.word ≠ "timeout" ∧ n.word ≠ "retry" := ⟨fun h => c (in_two_of (.inl h.symm)), fun h => c (in_two_of (.inr h.symm))⟩
      refine ⟨_, rfl, rfl, _, rfl, ite_str (fun e => ?_) (fun n1 => ?_)⟩
      · obtain ⟨a, i, j, ep, e, sq⟩ := of_orelse e hv
        cases e
        refine ⟨_, rfl, a, _, _, _, rfl, rfl, sq, rfl, _, rfl, a, _, _, _, rfl, rfl, sq, rfl, two, fun u nu => ?_⟩
        refine q u _ (S.trans (same_new nu)) ?_
        rw [ep]
        exact SqT.of upd_same
      · obtain ⟨a, b, xs, e, sq, sb⟩ := of_rest (by assumption) c.1 c.2 n1 hv
        cases e
        refine ⟨_, rfl, _, rfl, a, _, _, _, rfl, rfl, sq, atI_last _ _, ?_⟩
        exact q b _ S sb
theorem scLParts : FnScope ["node"] ["node"] (defScope sLParts) := ⟨rfl, rfl, rfl, by decide +kernel, rfl, by decide +kernel, by decide +kernel⟩
theorem ok_lparts {f : Addr} {fd : FuncData} (F : Fun K "_law_parts" "_law_parts" sLParts f fd) : FnOk P w K mg base CX0 1 f fd ["node"] (spParts K) := by
  refine F.ok scLParts (fun vs H Q E h => ?_) (fun cdv A outer s H vs Q E hr h => ?_)
  · obtain ⟨v, n, rfl, _⟩ := h
    rfl
  · obtain ⟨v, n, rfl, hv, q⟩ := h
    have nd := scLParts.nd
    have zero : (0 : Nat) ≤ sizeLine := by decide
    have one : (1 : Nat) ≤ sizeLine := by decide
    have two : (2 : Nat) ≤ sizeLine := by decide
    obtain ⟨a, xs, rfl, sq⟩ := hv.head
    refine ⟨_, (pss_cons (ps_if (pt_cmpR op_eq (pe_ix ix_tup (pv 0) pe_int (fun _ _ => rfl)) pe_str (nomark _)) (pss_one (ps_ret (pe_tup pa_nil))) pss_nil)
        (pss_cons (ps_if (pt_cmpR op_eq (pe_ix ix_tup (pv 0) pe_int (fun _ _ => rfl)) pe_str (nomark _)) (pss_one (ps_ret (pe_tup (pa_cons (pe_ix ix_tup (pv 0) pe_int (fun _ _ => rfl)) pa_nil)))) pss_nil)
        (pss_cons (ps_if (pt_cmpR op_eq (pe_ix ix_tup (pv 0) pe_int (fun _ _ => rfl)) pe_str (nomark _)) (pss_one (ps_ret (pe_tup (pa_cons (pe_ix ix_tup (pv 0) pe_int (fun _ _ => rfl)) (pa_cons (pe_ix ix_tup (pv 0) pe_int (fun _ _ => rfl)) pa_nil))))) pss_nil)
        (pss_cons (ps_if (pt_cmpR op_eq (pe_ix ix_tup (pv 0) pe_int (fun _ _ => rfl)) pe_str (nomark _)) (pss_one (ps_ret (pe_tup (pa_cons (pe_ix ix_tup (pv 0) pe_int (fun _ _ => rfl)) pa_nil)))) pss_nil)
        (pss_one (ps_ret (pe_ix ix_tup (pv 0) (pe_un un_neg pe_int) (fun _ _ => rfl)))))))), ?_⟩
    refine ⟨_, rfl, a, _, _, _, rfl, rfl, sq, atI_head, rfl, _, rfl, ite_str (fun e => ?_) (fun n1 => ?_)⟩
    · obtain ⟨_, _, _, _, _, rfl⟩ := of_job e
      exact ⟨zero, fun t nt => q t _ (same_new nt) (SqT.of upd_same)⟩
    refine ⟨_, rfl, a, _, _, _, rfl, rfl, sq, atI_head, rfl, _, rfl, ite_str (fun e => ?_) (fun n2 => ?_)⟩
    · obtain ⟨a, i, t, ep, e, sq⟩ := of_timeout e hv
      cases e
      refine ⟨_, rfl, a, _, _, _, rfl, rfl, sq, rfl, one, fun u nu => ?_⟩
      refine q u _ (same_new nu) ?_
      rw [ep]
      exact SqT.of upd_same
    refine ⟨_, rfl, a, _, _, _, rfl, rfl, sq, atI_head, rfl, _, rfl, ite_str (fun e => ?_) (fun n3 => ?_)⟩
    · obtain ⟨a, i, j, ep, e, sq⟩ := of_orelse e hv
      cases e
      refine ⟨_, rfl, a, _, _, _, rfl, rfl, sq, rfl, _, rfl, a, _, _, _, rfl, rfl, sq, rfl, two, fun u nu => ?_⟩
      refine q u _ (same_new nu) ?_
      rw [ep]
      exact SqT.of upd_same
    refine ⟨_, rfl, a, _, _, _, rfl, rfl, sq, atI_head, rfl, _, rfl, ite_str (fun e => ?_) (fun n4 => ?_)⟩
    · obtain ⟨a, i, r, d, rfl, e, sq⟩ := of_retry e hv
      cases e
      refine ⟨_, rfl, a, _, _, _, rfl, rfl, sq, rfl, one, fun u nu => ?_⟩
      exact q u _ (same_new nu) (SqT.of upd_same)
    · obtain ⟨a, b, xs, e, sq, sb⟩ := of_rest n1 n2 n4 n3 hv
      cases e
      refine ⟨_, rfl, _, rfl, a, _, _, _, rfl, rfl, sq, atI_last _ _, ?_⟩
      exact q b _ (Same.refl H) sb
/-- how often its parts run -/
def Nd.times : Nd → Int
  | .job .. => 1
  | .whole k _ => LB.times k
def spTimes (K : PySem.W.Frag) : Sp := fun vs H Q _ => ∃ (v : V) (n : Nd), vs = [v] ∧ NdAt K H v n ∧ Q (.int n.times) H
theorem scTimes : FnScope ["node"] ["node"] (defScope sTimes) := ⟨rfl, rfl, rfl, by decide +kernel, rfl, by decide +kernel, by decide +kernel⟩
theorem Nd.times_else {n : Nd} (h : n.word ≠ "retry") : n.times = 1 := by
  cases n with
  | job => rfl
  | whole k ps => exact LB.times_else h
theorem ok_times {f : Addr} {fd : FuncData} (F : Fun K "times_run" "times_run" sTimes f fd) : FnOk P w K mg base CX0 1 f fd ["node"] (spTimes K) := by
  refine F.ok scTimes (fun vs H Q E h => ?_) (fun cdv A outer s H vs Q E hr h => ?_)
  · obtain ⟨v, n, rfl, _⟩ := h
    rfl
  · obtain ⟨v, n, rfl, hv, q⟩ := h
    have nd := scTimes.nd
    obtain ⟨a, xs, rfl, sq⟩ := hv.head
    refine ⟨_, (pss_cons (ps_if (pt_cmpR op_eq (pe_ix ix_tup (pv 0) pe_int (fun _ _ => rfl)) pe_str (nomark _)) (pss_one (ps_ret (pe_op op_add (pe_ix ix_tup (pv 0) pe_int (fun _ _ => rfl)) pe_int))) pss_nil)
        (pss_one (ps_ret pe_int))), ?_⟩
    refine ⟨_, rfl, a, _, _, _, rfl, rfl, sq, atI_head, rfl, _, rfl, ite_str (fun e => ?_) (fun n1 => ?_)⟩
    · obtain ⟨a, i, r, d, rfl, e, sq⟩ := of_retry e hv
      cases e
      exact ⟨_, rfl, a, _, _, _, rfl, rfl, sq, rfl, _, _, rfl, rfl, q⟩
    · rw [Nd.times_else n1] at q
      exact q
end
end LB

set_option maxRecDepth 100000
set_option maxHeartbeats 8000000
namespace LB
open PySem PySem.Spec PyProof.Rows L2
theorem ix_listK {X : Cx} {K : PySem.W.Frag} (h : X.K = K) : IxR X (rIxL K) := by
  subst h
  exact ix_list
theorem ix_tupK {X : Cx} {K : PySem.W.Frag} (h : X.K = K) : IxR X (rIxT K) := by
  subst h
  exact ix_tup
theorem map_at {ns : List Int} {j : Nat} {x : V} (h : (ns.map V.int)[j]? = some x) : ∃ q, ns[j]? = some q ∧ x = .int q := by
  rw [List.getElem?_map] at h
  obtain ⟨q, h1, h2⟩ := Option.map_eq_some_iff.mp h
  exact ⟨q, h1, h2.symm⟩
theorem at_map_rows {rs : List Row} (f : Row → Int) {q : Int} (h0 : 0 ≤ q) (h1 : q < (rs.length : Int)) : atI ((rs.map f).map V.int) q = some (.int (f (rowN rs q))) := by
  obtain ⟨j, rfl⟩ : ∃ j : Nat, q = (j : Int) := ⟨q.toNat, by omega⟩
  have h := (rowN_mem h0 h1).2
  rw [Int.toNat_natCast] at h
  exact atI_nat (by rw [List.getElem?_map, List.getElem?_map, h]; rfl)
/-- a plan's row of nodes -/
structure OkN (N : List Nd) : Prop where
  bk : Back 0 N
  ok : ∀ n ∈ N, NdOk n
  len : N.length ≤ 40
theorem OkN.few {N : List Nd} (h : OkN N) : ∀ n ∈ N, n.parts.length ≤ 6 := by
  intro n hn
  have h := h.ok n hn
  cases n with
  | job => exact Nat.zero_le 6
  | whole k ps =>
    have h : KdOk k ps.length := h
    show ps.length ≤ 6
    cases k with
    | plain _ => exact h.2
    | pool _ => exact h.2.1
    | timeout _ => have := h.1; omega
    | orelse => have e : ps.length = 2 := h; omega
    | retry _ _ => have := h.1; omega
theorem rowAt_deep (rs : List Row) (n : Nd) : (rowAt rs n).deep = 1 + maxI (n.parts.map fun q => (rowN rs q).deep) := by
  cases n with
  | job => rfl
  | whole => rfl
theorem rowAt_runs (rs : List Row) (n : Nd) (h : n.word ≠ "job") : (rowAt rs n).runs = n.times * (n.parts.map fun q => (rowN rs q).runs).sum := by
  cases n with
  | job => exact absurd rfl h
  | whole => rfl
section
variable {P : Program} {w : World} {K : PySem.W.Frag} {mg : Str → Option Value} {base : Heap}
def spDepths (K : PySem.W.Frag) : Sp := fun vs H Q _ => ∃ (v : V) (N : List Nd), vs = [v] ∧ PlanAt K H v N ∧ OkN N ∧ ∀ (p : Addr) (H' : Hp), Same H H' → H' p = some (.lst (((rowsOn [] N).map Row.deep).map V.int)) → Q (.ref p) H'
theorem scDepths : FnScope ["plan", "found", "node", "part"] ["plan"] (defScope sDepths) := ⟨rfl, rfl, rfl, by decide +kernel, rfl, by decide +kernel, by decide +kernel⟩
theorem ok_depths {f fP : Addr} {fd fdP : FuncData} (F : Fun K "depths" "depths" sDepths f fd) (M : NamesP mg) (FP : Fun K "parts_of" "parts_of" sParts fP fdP) (mP : mg "parts_of" = some (.ref fP)) (bP : Binds K fdP ["node"] []) :
    FnOk P w K mg base CX0 2 f fd ["plan"] (spDepths K) := by
  have GP : FnOk P w K mg base CX0 1 fP fdP ["node"] (spParts K) := ok_parts FP
  have kP := FP.kp
  refine F.ok scDepths (fun vs H Q E h => ?_) (fun cdv A outer s H vs Q E hr h => ?_)
  · obtain ⟨v, N, rfl, _⟩ := h
    rfl
  · obtain ⟨v, N, rfl, ⟨a, vs, rfl, sq, nv⟩, ok, q⟩ := h
    have nd := scDepths.nd
    have zero : (0 : Nat) ≤ sizeLine := by decide
    refine ⟨_, (pss_cons (ps_set (i := 1) nd rfl (Or.inr rfl) (pe_lst pa_nil))
        (pss_cons (ps_for PassesOwn.never rfl (pi_tup (pv 0)) (pg_name (i := 2) nd rfl (Or.inl rfl)) (pss_one (ps_expr (pe_bm PySem.F.plainAttrs_list PySem.F.slot_list_append PySem.F.type_list_append mt_append (pv 1) (pa_cons (pe_op op_add pe_int (pe_callBK (call_maxD rfl hr.units) (by rfl) M.max (by decide +kernel) (pa_cons (pe_lc (own := [("part", 3)]) (g := (gName 3)) rfl nd (pi_tup (pe_call GP (hr.mono (by decide)) rfl mP kP bP .nil pass0 (pa_cons (pv 2) pa_nil))) (blkOk_by (N := ["plan", "found", "node", "part"]) (sc := (defScope sDepths)) (by decide +kernel)) (fun _ _ _ _ _ => (pg_name (i := 3) nd rfl (Or.inl rfl))) (fun _ _ _ _ _ => pts_nil) (fun _ _ _ _ _ => (pe_ix (ix_listK (K := K) rfl) (pv 1) (pv 3) (fun _ _ => rfl)))) pa_nil) (pk_cons pe_int pk_nil))) pa_nil)))))
        (pss_one (ps_ret (pv 1))))), ?_⟩
    refine ⟨zero, fun p np => ?_⟩
    refine ⟨_, rfl, a, rfl, ⟨vs, (same_new np) |> fun S => (Tp.same S).seq sq⟩, ?_⟩
    refine for_tup (xs := vs) (fun i σ H' => ∃ (v2 : Option V), σ = [some (.ref a), some (.ref p), v2, none] ∧ Same H H' ∧ H' p = some (.lst (((rowsOn [] (N.take i)).map Row.deep).map V.int)))
      ⟨none, rfl, same_new np, upd_same⟩ (fun i σ H' _ h => ?_) ?_ ?_
    · obtain ⟨_, _, S, _⟩ := h
      exact (Tp.same S).seq sq
    · rintro i u σ H1 hu ⟨v2, rfl, S, hp⟩
      have iN : i < N.length := by rw [← nv.len]; exact (List.getElem?_eq_some_iff.mp hu).1
      obtain ⟨u', hu', nu⟩ := nv.at_ i N[i] (List.getElem?_eq_getElem iN)
      cases hu.symm.trans hu'
      have nu := nu.tp (Tp.same S)
      refine ⟨_, rfl, .inl ⟨rfl, _, SqL.of hp⟩, ?_⟩
      refine ⟨_, rfl, u, _, rfl, nu, fun t H2 S2 sT => ⟨t, rfl, ⟨_, sT⟩, fun D nD => ?_⟩⟩
      have hp2 := S2 _ _ hp
      have len0 : (rowsOn [] (N.take i)).length = i := by rw [rowsOn_length, List.length_take]; simp; omega
      refine lc_tup (xs := N[i].parts.map V.int) (fun j H' => Same H2 H' ∧ H' D = some (.lst (((N[i].parts.take j).map fun q => (rowN (rowsOn [] (N.take i)) q).deep).map V.int)))
        ⟨same_new nD, upd_same⟩ (fun j H' _ h => (Tp.same h.1).seq sT) ?_ ?_
      · rintro j x H3 hx ⟨S3, hD⟩
        obtain ⟨q', hq, rfl⟩ := map_at hx
        have hb := ok.bk i _ (List.getElem?_eq_getElem iN) q' (List.mem_of_getElem? hq)
        refine ⟨rfl, _, rfl, _, rfl, p, _, _, _, rfl, rfl, SqL.of (S3 _ _ hp2), (at_map_rows Row.deep hb.1 (by rw [len0]; omega)), _, hD, ?_, ?_, ?_⟩
        · rw [List.length_map, List.length_map, List.length_take]
          have := ok.few _ (List.getElem_mem iN)
          exact small_line (by omega)
        · exact same_upd S3 nD
        · rw [take_succ hq, List.map_append, List.map_append]
          exact upd_same
      · rintro H3 ⟨S3, hD⟩
        rw [List.length_map, List.take_length] at hD
        have S' := S.trans (S2.trans S3)
        have hp3 := S3 _ _ hp2
        have key : ∀ m : Int, m = maxI (N[i].parts.map fun q => (rowN (rowsOn [] (N.take i)) q).deep) → (rowsOn [] (N.take (i + 1))).map Row.deep = (rowsOn [] (N.take i)).map Row.deep ++ [1 + m] := fun m e => by
          rw [rowsOn_take (List.getElem?_eq_getElem iN), List.map_append]
          refine congrArg (fun z => _ ++ [z]) ?_
          rw [rowAt_deep, e]
        have fin : ∀ m : Int, m = maxI (N[i].parts.map fun q => (rowN (rowsOn [] (N.take i)) q).deep) → HO.lst (((rowsOn [] (N.take i)).map Row.deep).map V.int ++ [V.int (1 + m)]) = .lst (((rowsOn [] (N.take (i + 1))).map Row.deep).map V.int) := fun m e => by
          rw [key m e, List.map_append]
          rfl
        have sl : (((rowsOn [] (N.take i)).map Row.deep).map V.int).length < sizeLine := by
          rw [List.length_map, List.length_map, len0]
          exact small_line (by have := ok.len; omega)
        refine ⟨D, _, 0, rfl, rfl, SqL.of hD, fun e => ?_, fun m hm hx => ?_⟩
        · refine ⟨_, _, rfl, rfl, p, _, _, rfl, rfl, hp3, sl, _, rfl, same_upd S' np, ?_⟩
          rw [fin 0 (by rw [e]; rfl)]
          exact upd_same
        · refine ⟨_, _, rfl, rfl, p, _, _, rfl, rfl, hp3, sl, _, rfl, same_upd S' np, ?_⟩
          rw [fin m (maxI_eq hm hx ?_).symm]
          · exact upd_same
          · obtain ⟨q', hq', e⟩ := List.mem_map.mp hm
            have hb := ok.bk i _ (List.getElem?_eq_getElem iN) q' hq'
            have := deep_pos (N.take i) [] (fun _ h => nomatch h) _ (rowN_mem (q := q') hb.1 (by rw [len0]; omega)).1
            omega
    · rintro σ H1 ⟨v2, rfl, S, hp⟩
      rw [nv.len, List.take_length] at hp
      exact ⟨_, rfl, q p H1 S hp⟩
end
end LB

set_option maxRecDepth 100000
set_option maxHeartbeats 8000000
namespace LB
open PySem PySem.Spec PyProof.Rows L2
theorem take_filter {α : Type} {l : List α} {f : α → Bool} {i : Nat} {x : α} (h : l[i]? = some x) : (l.take (i + 1)).filter f = (l.take i).filter f ++ (if f x = true then [x] else []) := by
  rw [take_succ h, List.filter_append]
  by_cases c : f x = true
  · rw [if_pos c, List.filter_cons_of_pos c]; rfl
  · rw [if_neg c, List.filter_cons_of_neg c]; rfl
theorem Nd.times_small {n : Nd} (h : NdOk n) : 1 ≤ n.times ∧ n.times ≤ 6 := by
  cases n with
  | job => exact ⟨(by decide : (1 : Int) ≤ 1), (by decide : (1 : Int) ≤ 6)⟩
  | whole k ps => exact KdOk.times h
section
variable {P : Program} {w : World} {K : PySem.W.Frag} {mg : Str → Option Value} {base : Heap}
def spRuns (K : PySem.W.Frag) : Sp := fun vs H Q _ => ∃ (v : V) (N : List Nd) (R : List Row) (r : Row), vs = [v] ∧ PlanAt K H v N ∧ OkN N ∧ rowsOn [] N = R ++ [r] ∧ ∀ (H' : Hp), Same H H' → Q (.int r.runs) H'
theorem scJobRuns : FnScope ["plan", "runs", "node", "part"] ["plan"] (defScope sJobRuns) := ⟨rfl, rfl, rfl, by decide +kernel, rfl, by decide +kernel, by decide +kernel⟩
theorem ok_runs {f fP fT : Addr} {fd fdP fdT : FuncData} (F : Fun K "job_runs" "job_runs" sJobRuns f fd) (M : NamesP mg) (FP : Fun K "parts_of" "parts_of" sParts fP fdP) (mP : mg "parts_of" = some (.ref fP)) (bP : Binds K fdP ["node"] [])
    (FT : Fun K "times_run" "times_run" sTimes fT fdT) (mT : mg "times_run" = some (.ref fT)) (bT : Binds K fdT ["node"] []) :
    FnOk P w K mg base CX0 2 f fd ["plan"] (spRuns K) := by
  have GP : FnOk P w K mg base CX0 1 fP fdP ["node"] (spParts K) := ok_parts FP
  have GT : FnOk P w K mg base CX0 1 fT fdT ["node"] (spTimes K) := ok_times FT
  have kP := FP.kp
  have kT := FT.kp
  refine F.ok scJobRuns (fun vs H Q E h => ?_) (fun cdv A outer s H vs Q E hr h => ?_)
  · obtain ⟨v, N, _, _, rfl, _⟩ := h
    rfl
  · obtain ⟨v, N, R, r, rfl, ⟨a, vs, rfl, sq, nv⟩, ok, eR, q⟩ := h
    have nd := scJobRuns.nd
    have zero : (0 : Nat) ≤ sizeLine := by decide
    refine ⟨_, (pss_cons (ps_set (i := 1) nd rfl (Or.inr rfl) (pe_lst pa_nil))
        (pss_cons (ps_for PassesOwn.never rfl (pi_tup (pv 0)) (pg_name (i := 2) nd rfl (Or.inl rfl)) (pss_one (ps_if (pt_cmpR op_eq (pe_ix ix_tup (pv 2) pe_int (fun _ _ => rfl)) pe_str (nomark _)) (pss_one (ps_expr (pe_bm PySem.F.plainAttrs_list PySem.F.slot_list_append PySem.F.type_list_append mt_append (pv 1) (pa_cons pe_int pa_nil)))) (pss_one (ps_expr (pe_bm PySem.F.plainAttrs_list PySem.F.slot_list_append PySem.F.type_list_append mt_append (pv 1) (pa_cons (pe_op op_mul (pe_call GT (hr.mono (by decide)) rfl mT kT bT .nil pass0 (pa_cons (pv 2) pa_nil)) (pe_callB (cr_sum rfl) (by rfl) M.sum (by decide +kernel) (pa_cons (pe_lc (own := [("part", 3)]) (g := (gName 3)) rfl nd (pi_tup (pe_call GP (hr.mono (by decide)) rfl mP kP bP .nil pass0 (pa_cons (pv 2) pa_nil))) (blkOk_by (N := ["plan", "runs", "node", "part"]) (sc := (defScope sJobRuns)) (by decide +kernel)) (fun _ _ _ _ _ => (pg_name (i := 3) nd rfl (Or.inl rfl))) (fun _ _ _ _ _ => pts_nil) (fun _ _ _ _ _ => (pe_ix (ix_listK (K := K) rfl) (pv 1) (pv 3) (fun _ _ => rfl)))) pa_nil))) pa_nil)))))))
        (pss_one (ps_ret (pe_ix ix_list (pv 1) (pe_un un_neg pe_int) (fun _ _ => rfl)))))), ?_⟩
    refine ⟨zero, fun p np => ?_⟩
    refine ⟨_, rfl, a, rfl, ⟨vs, (Tp.same (same_new np)).seq sq⟩, ?_⟩
    refine for_tup (xs := vs) (fun i σ H' => ∃ (v2 : Option V), σ = [some (.ref a), some (.ref p), v2, none] ∧ Same H H' ∧ H' p = some (.lst (((rowsOn [] (N.take i)).map Row.runs).map V.int)))
      ⟨none, rfl, same_new np, upd_same⟩ (fun i σ H' _ h => ?_) ?_ ?_
    · obtain ⟨_, _, S, _⟩ := h
      exact (Tp.same S).seq sq
    · rintro i u σ H1 hu ⟨v2, rfl, S, hp⟩
      have iN : i < N.length := by rw [← nv.len]; exact (List.getElem?_eq_some_iff.mp hu).1
      obtain ⟨u', hu', nu⟩ := nv.at_ i N[i] (List.getElem?_eq_getElem iN)
      cases hu.symm.trans hu'
      have nu := nu.tp (Tp.same S)
      have len0 : (rowsOn [] (N.take i)).length = i := by rw [rowsOn_length, List.length_take]; simp; omega
      have sl : (((rowsOn [] (N.take i)).map Row.runs).map V.int).length < sizeLine := by
        rw [List.length_map, List.length_map, len0]
        exact small_line (by have := ok.len; omega)
      have fin : ∀ m : Int, m = (rowAt (rowsOn [] (N.take i)) N[i]).runs → HO.lst (((rowsOn [] (N.take i)).map Row.runs).map V.int ++ [V.int m]) = .lst (((rowsOn [] (N.take (i + 1))).map Row.runs).map V.int) := fun m e => by
        rw [rowsOn_take (List.getElem?_eq_getElem iN), List.map_append, List.map_append, e]
        rfl
      obtain ⟨b, xs, rfl, sb⟩ := nu.head
      refine ⟨_, rfl, b, _, _, _, rfl, rfl, sb, atI_head, rfl, _, rfl, ite_str (fun e => ?_) (fun n1 => ?_)⟩
      · refine ⟨_, rfl, .inl ⟨rfl, _, SqL.of hp⟩, p, _, _, rfl, rfl, hp, sl, _, rfl, same_upd S np, ?_⟩
        rw [fin 1 ?_]
        · exact upd_same
        · obtain ⟨_, _, _, _, _, e⟩ := of_job e
          rw [e]
          rfl
      · refine ⟨_, rfl, .inl ⟨rfl, _, SqL.of hp⟩, _, rfl, _, N[i], rfl, nu, ?_⟩
        refine ⟨_, rfl, _, N[i], rfl, nu, fun t H2 S2 sT => ⟨t, rfl, ⟨_, sT⟩, fun D nD => ?_⟩⟩
        have hp2 := S2 _ _ hp
        refine lc_tup (xs := N[i].parts.map V.int) (fun j H' => Same H2 H' ∧ H' D = some (.lst ((N[i].parts.take j).map (fun q => (rowN (rowsOn [] (N.take i)) q).runs) |>.map V.int)))
          ⟨same_new nD, upd_same⟩ (fun j H' _ h => (Tp.same h.1).seq sT) ?_ ?_
        · rintro j x H3 hx ⟨S3, hD⟩
          obtain ⟨q', hq, rfl⟩ := map_at hx
          have hb := ok.bk i _ (List.getElem?_eq_getElem iN) q' (List.mem_of_getElem? hq)
          refine ⟨rfl, _, rfl, _, rfl, p, _, _, _, rfl, rfl, SqL.of (S3 _ _ hp2), (at_map_rows Row.runs hb.1 (by rw [len0]; omega)), _, hD, ?_, same_upd S3 nD, ?_⟩
          · rw [List.length_map, List.length_map, List.length_take]
            have := ok.few _ (List.getElem_mem iN)
            exact small_line (by omega)
          · rw [take_succ hq, List.map_append, List.map_append]
            exact upd_same
        · rintro H3 ⟨S3, hD⟩
          rw [List.length_map, List.take_length] at hD
          have S' := S.trans (S2.trans S3)
          have hp3 := S3 _ _ hp2
          have tm := Nd.times_small (ok.ok _ (List.getElem_mem iN))
          refine ⟨D, _, rfl, SqL.of hD, _, _, rfl, rfl, .inl ⟨by omega, by omega⟩, p, _, _, rfl, rfl, hp3, sl, _, rfl, same_upd S' np, ?_⟩
          rw [fin _ (rowAt_runs _ _ n1).symm]
          exact upd_same
    · rintro σ H1 ⟨v2, rfl, S, hp⟩
      rw [nv.len, List.take_length, eR, List.map_append, List.map_append] at hp
      refine ⟨_, rfl, _, rfl, p, _, _, _, rfl, rfl, SqL.of hp, atI_last _ _, q H1 S⟩
end
end LB

set_option maxRecDepth 100000
set_option maxHeartbeats 8000000
namespace LB
open PySem PySem.Spec PyProof.Rows L2
/-! ### rows of sizes as values -/
structure RowsAt (K : PySem.W.Frag) (H : Hp) (vs : List V) (rs : List Row) : Prop where
  len : vs.length = rs.length
  at_ : ∀ (i : Nat) (r : Row), rs[i]? = some r → ∃ a : Addr, vs[i]? = some (.ref a) ∧ SqT K H a [.int r.deep, .int r.runs, .int r.clean]
theorem RowsAt.nil {K : PySem.W.Frag} {H : Hp} : RowsAt K H [] [] := ⟨rfl, fun i n h => by simp at h⟩
theorem RowsAt.tp {K : PySem.W.Frag} {H H' : Hp} {vs : List V} {ns : List Row} (x : Tp H H') (h : RowsAt K H vs ns) : RowsAt K H' vs ns := ⟨h.len, fun i n q => let ⟨v, e, r⟩ := h.at_ i n q; ⟨v, e, x.seq r⟩⟩
theorem RowsAt.more {K : PySem.W.Frag} {H : Hp} {vs : List V} {ns : List Row} {a : Addr} {n : Row} (h : RowsAt K H vs ns) (r : SqT K H a [.int n.deep, .int n.runs, .int n.clean]) : RowsAt K H (vs ++ [.ref a]) (ns ++ [n]) := by
  have hl := h.len
  refine ⟨by simp [hl], fun i m q => ?_⟩
  by_cases c : i < ns.length
  · rw [List.getElem?_append_left c] at q
    obtain ⟨u, e, z⟩ := h.at_ i m q
    exact ⟨u, by rw [List.getElem?_append_left (by omega)]; exact e, z⟩
  · rw [List.getElem?_append_right (by omega)] at q
    have c2 : i = ns.length := by
      by_cases c3 : i - ns.length = 0
      · omega
      · rw [List.getElem?_eq_none (by simp; omega)] at q
        cases q
    subst c2
    have e : n = m := by simpa using q
    subst e
    exact ⟨a, by rw [← hl, List.getElem?_append_right (Nat.le_refl _)]; simp, r⟩
theorem RowsAt.get {K : PySem.W.Frag} {H : Hp} {vs : List V} {rs : List Row} (h : RowsAt K H vs rs) {q : Int} (h0 : 0 ≤ q) (h1 : q < (rs.length : Int)) : ∃ a : Addr, atI vs q = some (.ref a) ∧ SqT K H a [.int (rowN rs q).deep, .int (rowN rs q).runs, .int (rowN rs q).clean] := by
  obtain ⟨j, rfl⟩ : ∃ j : Nat, q = (j : Int) := ⟨q.toNat, by omega⟩
  have e := (rowN_mem h0 h1).2
  rw [Int.toNat_natCast] at e
  obtain ⟨a, ea, sq⟩ := h.at_ j _ e
  exact ⟨a, atI_nat ea, sq⟩
def c0 : Nd → Int
  | .job _ _ _ c _ => c
  | .whole .. => 0
def r0 : Nd → Int
  | .job .. => 1
  | .whole .. => 0
theorem clean_nn : ∀ (ns : List Nd) (rs : List Row), (∀ n ∈ ns, NdOk n) → (∀ r ∈ rs, 0 ≤ r.clean) → ∀ r ∈ rowsOn rs ns, 0 ≤ r.clean
  | [], rs, _, h => h
  | n :: t, rs, ok, h => by
    refine clean_nn t (rs ++ [rowAt rs n]) (fun m hm => ok m (List.mem_cons_of_mem _ hm)) fun r hr => ?_
    rcases List.mem_append.mp hr with q | q
    · exact h r q
    · rw [List.mem_singleton.mp q]
      have o := ok n (List.mem_cons_self ..)
      cases n with
      | job d g v c f => exact o.2.2.1.1
      | whole k ps => exact maxI_nn _
theorem rowAt_clean (rs : List Row) {n : Nd} (h : NdOk n) : (rowAt rs n).clean = max (c0 n) (maxI (n.parts.map fun q => (rowN rs q).clean)) := by
  cases n with
  | job d g v c f =>
    have h1 : 0 ≤ c := h.2.2.1.1
    show c = max c 0
    omega
  | whole k ps =>
    have h1 := maxI_nn (ps.map fun q => (rowN rs q).clean)
    show maxI _ = max 0 (maxI (ps.map fun q => (rowN rs q).clean))
    omega
theorem max_if (i j : Int) : (if j > i then j else i) = max i j := by
  split <;> omega
theorem maxI_snoc {l : List Int} {x : Int} (h : 0 ≤ x) : maxI (l ++ [x]) = max (maxI l) x := by rw [maxI_app, maxI_one h]
section
variable {P : Program} {w : World} {K : PySem.W.Frag} {mg : Str → Option Value} {base : Heap}
def spSizes (K : PySem.W.Frag) : Sp := fun vs H Q _ => ∃ (v : V) (N : List Nd), vs = [v] ∧ PlanAt K H v N ∧ OkN N ∧ ∀ (p : Addr) (vs : List V) (H' : Hp), Same H H' → H' p = some (.lst vs) → RowsAt K H' vs (rowsOn [] N) → Q (.ref p) H'
theorem scLSizes : FnScope ["plan", "rows", "node", "deep", "runs", "clean", "part"] ["plan"] (defScope sLSizes) := ⟨rfl, rfl, rfl, by decide +kernel, rfl, by decide +kernel, by decide +kernel⟩
theorem ok_sizes {f fP : Addr} {fd fdP : FuncData} (F : Fun K "_law_sizes" "_law_sizes" sLSizes f fd) (M : NamesP mg) (FP : Fun K "_law_parts" "_law_parts" sLParts fP fdP) (mP : mg "_law_parts" = some (.ref fP)) (bP : Binds K fdP ["node"] []) :
    FnOk P w K mg base CX0 2 f fd ["plan"] (spSizes K) := by
  have GP : FnOk P w K mg base CX0 1 fP fdP ["node"] (spParts K) := ok_lparts FP
  have kP := FP.kp
  refine F.ok scLSizes (fun vs H Q E h => ?_) (fun cdv A outer s H vs Q E hr h => ?_)
  · obtain ⟨v, N, rfl, _⟩ := h
    rfl
  · obtain ⟨v, N, rfl, ⟨a, vs, rfl, sq, nv⟩, ok, q⟩ := h
    have nd := scLSizes.nd
    have zero : (0 : Nat) ≤ sizeLine := by decide
    have three : (3 : Nat) ≤ sizeLine := by decide
    refine ⟨_, (pss_cons (ps_set (i := 1) nd rfl (Or.inl rfl) (pe_lst pa_nil))
        (pss_cons (ps_for PassesOwn.never rfl (pi_tup (pv 0)) (pg_name (i := 2) nd rfl (Or.inl rfl)) (pss_cons (ps_set (i := 3) nd rfl (Or.inl rfl) pe_int)
        (pss_cons (ps_set (i := 4) nd rfl (Or.inl rfl) (pe_callTy call_int1 (by rfl) M.int (by decide +kernel) (pa_cons (pe_cmpR op_eq (pe_ix ix_tup (pv 2) pe_int (fun _ _ => rfl)) pe_str (nomark _)) pa_nil)))
        (pss_cons (ps_set (i := 5) nd rfl (Or.inl rfl) pe_int)
        (C8.pss_cut (ps_if (pt_cmpR op_eq (pe_ix ix_tup (pv 2) pe_int (fun _ _ => rfl)) pe_str (nomark _)) (pss_one (ps_set (i := 5) nd rfl (Or.inl rfl) (pe_ix ix_tup (pv 2) pe_int (fun _ _ => rfl)))) pss_nil)
        (pss_cons (ps_for PassesOwn.never rfl (pi_tup (pe_call GP (hr.mono (by decide)) rfl mP kP bP .nil pass0 (pa_cons (pv 2) pa_nil))) (pg_name (i := 6) nd rfl (Or.inl rfl)) (pss_cons (ps_set (i := 3) nd rfl (Or.inl rfl) (pe_callB (call_max2 rfl) (by rfl) M.max (by decide +kernel) (pa_cons (pv 3) (pa_cons (pe_op op_add (pe_ix ix_tup (pe_ix ix_list (pv 1) (pv 6) (fun _ _ => rfl)) pe_int (fun _ _ => rfl)) pe_int) pa_nil))))
        (pss_cons (ps_set (i := 4) nd rfl (Or.inl rfl) (pe_op op_add (pv 4) (pe_ix ix_tup (pe_ix ix_list (pv 1) (pv 6) (fun _ _ => rfl)) pe_int (fun _ _ => rfl))))
        (pss_one (ps_set (i := 5) nd rfl (Or.inl rfl) (pe_callB (call_max2 rfl) (by rfl) M.max (by decide +kernel) (pa_cons (pv 5) (pa_cons (pe_ix ix_tup (pe_ix ix_list (pv 1) (pv 6) (fun _ _ => rfl)) pe_int (fun _ _ => rfl)) pa_nil))))))))
        (C8.pss_cut (ps_if (pt_cmpR op_eq (pe_ix ix_tup (pv 2) pe_int (fun _ _ => rfl)) pe_str (nomark _)) (pss_one (ps_set (i := 4) nd rfl (Or.inl rfl) (pe_op op_mul (pv 4) (pe_op op_add (pe_ix ix_tup (pv 2) pe_int (fun _ _ => rfl)) pe_int)))) pss_nil)
        (pss_one (ps_expr (pe_bm PySem.F.plainAttrs_list PySem.F.slot_list_append PySem.F.type_list_append mt_append (pv 1) (pa_cons (pe_tup (pa_cons (pv 3) (pa_cons (pv 4) (pa_cons (pv 5) pa_nil)))) pa_nil)))))))))))
        (pss_one (ps_ret (pv 1))))), ?_⟩
    refine ⟨zero, fun p np => ?_⟩
    refine ⟨_, rfl, a, rfl, ⟨vs, (Tp.same (same_new np)).seq sq⟩, ?_⟩
    refine for_tup (xs := vs) (fun i σ H' => ∃ (v2 v3 v4 v5 v6 : Option V) (us : List V), σ = [some (.ref a), some (.ref p), v2, v3, v4, v5, v6] ∧ Same H H' ∧ H' p = some (.lst us) ∧ RowsAt K H' us (rowsOn [] (N.take i)))
      ⟨none, none, none, none, none, [], rfl, same_new np, upd_same, .nil⟩ (fun i σ H' _ h => ?_) ?_ ?_
    · obtain ⟨_, _, _, _, _, _, _, S, _⟩ := h
      exact (Tp.same S).seq sq
    · rintro i u σ H1 hu ⟨v2, v3, v4, v5, v6, us, rfl, S, hp, ra⟩
      have iN : i < N.length := by rw [← nv.len]; exact (List.getElem?_eq_some_iff.mp hu).1
      obtain ⟨u', hu', nu⟩ := nv.at_ i N[i] (List.getElem?_eq_getElem iN)
      cases hu.symm.trans hu'
      have nu := nu.tp (Tp.same S)
      have okn := ok.ok _ (List.getElem_mem iN)
      have len0 : (rowsOn [] (N.take i)).length = i := by rw [rowsOn_length, List.length_take]; simp; omega
      have bk := ok.bk i _ (List.getElem?_eq_getElem iN)
      have tN := rowsOn_take (List.getElem?_eq_getElem iN)
      have dpos := deep_pos (N.take i) [] (fun _ h => nomatch h)
      have cpos := clean_nn (N.take i) [] (fun n hn => ok.ok n (List.mem_of_mem_take hn)) (fun _ h => nomatch h)
      generalize rowsOn [] (N.take i) = R at ra len0 tN dpos cpos
      generalize N[i] = n at nu okn bk tN
      obtain ⟨b, xs, rfl, sb⟩ := nu.head
      have er : (if isJob n = true then (1 : Int) else 0) = r0 n := by cases n <;> rfl
      have c00 : 0 ≤ c0 n := by
        cases n with
        | job d g v c f => exact okn.2.2.1.1
        | whole k ps => exact Int.le_refl 0
      refine ⟨_, rfl, b, _, _, _, rfl, rfl, sb, atI_head, rfl, ?_⟩
      rw [isJob_word]
      refine .inr ⟨_, rfl, ?_⟩
      rw [er]
      refine ⟨fun σ H' => σ = [some (.ref a), some (.ref p), some (.ref b), some (.int 1), some (.int (r0 n)), some (.int (c0 n)), v6] ∧ H' = H1, ?_, ?_⟩
      · refine ⟨_, rfl, b, _, _, _, rfl, rfl, sb, atI_head, rfl, _, rfl, ite_str (fun e => ?_) (fun e => ?_)⟩
        · obtain ⟨d, g, v, cl, fo, rfl⟩ := of_job e
          obtain ⟨b', e2, sb'⟩ := nu
          cases e2
          exact ⟨_, rfl, b, _, _, _, rfl, rfl, sb', rfl, rfl, rfl⟩
        · cases n with
          | job d g v c f => exact absurd rfl e
          | whole k ps => exact ⟨rfl, rfl⟩
      rintro σ H1' ⟨rfl, rfl⟩
      refine ⟨_, rfl, .ref b, n, rfl, nu, fun t H2 S2 sT => ⟨t, rfl, ⟨_, sT⟩, ?_⟩⟩
      have hp2 := S2 _ _ hp
      have ra2 := ra.tp (Tp.same S2)
      refine for_tup (xs := n.parts.map V.int) (fun j σ H' => ∃ v6, σ = [some (.ref a), some (.ref p), some (.ref b), some (.int (1 + maxI ((n.parts.take j).map fun q => (rowN R q).deep))), some (.int (r0 n + ((n.parts.take j).map fun q => (rowN R q).runs).sum)),
          some (.int (max (c0 n) (maxI ((n.parts.take j).map fun q => (rowN R q).clean)))), v6] ∧ H' = H2) ⟨v6, ?_, rfl⟩ (fun j σ H' _ h => ?_) ?_ ?_
      · show _ = [some (.ref a), some (.ref p), some (.ref b), some (.int (1 + 0)), some (.int (r0 n + 0)), some (.int (max (c0 n) 0)), v6]
        rw [Int.add_zero, Int.add_zero, Int.max_eq_left c00]
      · obtain ⟨_, _, rfl⟩ := h
        exact sT
      · rintro j x σ H3 hx ⟨v6, rfl, rfl⟩
        obtain ⟨q', hq, rfl⟩ := map_at hx
        have hb := bk q' (List.mem_of_getElem? hq)
        have hb1 : q' < (R.length : Int) := by rw [len0]; omega
        obtain ⟨rad, ha, sra⟩ := ra2.get hb.1 hb1
        have hm := (rowN_mem hb.1 hb1).1
        have d1 := dpos _ hm
        have cc1 := cpos _ hm
        refine ⟨_, rfl, _, rfl, _, rfl, p, _, _, _, rfl, rfl, SqL.of hp2, ha, rad, _, _, _, rfl, rfl, sra, rfl, _, _, rfl, rfl, _, _, rfl, ?_⟩
        refine ⟨_, rfl, _, rfl, _, rfl, p, _, _, _, rfl, rfl, SqL.of hp2, ha, rad, _, _, _, rfl, rfl, sra, rfl, _, _, rfl, rfl, ?_⟩
        refine ⟨_, rfl, _, rfl, _, rfl, p, _, _, _, rfl, rfl, SqL.of hp2, ha, rad, _, _, _, rfl, rfl, sra, rfl, _, _, rfl, ?_⟩
        refine ⟨some (.int q'), ?_, rfl⟩
        rw [take_succ hq, List.map_append, List.map_append, List.map_append, max_if, max_if]
        show [some (V.ref a), some (.ref p), some (.ref b), some (.int (max (1 + maxI ((n.parts.take j).map fun q => (rowN R q).deep)) ((rowN R q').deep + 1))), some (.int (r0 n + ((n.parts.take j).map fun q => (rowN R q).runs).sum + (rowN R q').runs)),
          some (.int (max (max (c0 n) (maxI ((n.parts.take j).map fun q => (rowN R q).clean))) (rowN R q').clean)), some (.int q')] =
          [some (V.ref a), some (.ref p), some (.ref b), some (.int (1 + maxI ((n.parts.take j).map (fun q => (rowN R q).deep) ++ [(rowN R q').deep]))), some (.int (r0 n + ((n.parts.take j).map (fun q => (rowN R q).runs) ++ [(rowN R q').runs]).sum)),
          some (.int (max (c0 n) (maxI ((n.parts.take j).map (fun q => (rowN R q).clean) ++ [(rowN R q').clean])))), some (.int q')]
        rw [maxI_snoc (by omega), maxI_snoc cc1, List.sum_append, List.sum_singleton, Int.add_assoc, Int.max_assoc]
        rw [show max (1 + maxI ((n.parts.take j).map fun q => (rowN R q).deep)) ((rowN R q').deep + 1) = 1 + max (maxI ((n.parts.take j).map fun q => (rowN R q).deep)) (rowN R q').deep by omega]
      · rintro σ H3 ⟨v6, rfl, rfl⟩
        rw [List.length_map, List.take_length, ← rowAt_deep, ← rowAt_clean R okn]
        refine ⟨fun σ H' => σ = [some (.ref a), some (.ref p), some (.ref b), some (.int (rowAt R n).deep), some (.int (rowAt R n).runs), some (.int (rowAt R n).clean), v6] ∧ H' = H3, ?_, ?_⟩
        · have nu2 := nu.tp (Tp.same S2)
          have sb2 := (Tp.same S2).seq sb
          refine ⟨_, rfl, b, _, _, _, rfl, rfl, sb2, atI_head, rfl, _, rfl, ite_str (fun e => ?_) (fun e => ?_)⟩
          · obtain ⟨b', i', r, d, rfl, e2, sb'⟩ := of_retry e nu2
            cases e2
            have ts : 0 ≤ r ∧ r ≤ 5 := ⟨okn.2.1, okn.2.2.1⟩
            refine ⟨_, rfl, _, rfl, b, _, _, _, rfl, rfl, sb', rfl, _, _, rfl, rfl, _, _, rfl, rfl, .inr ⟨by omega, by omega⟩, ?_, rfl⟩
            show [some (V.ref a), some (.ref p), some (.ref b), some (.int (rowAt R (.whole (.retry r d) [i'])).deep), some (.int ((0 + ([i'].map fun q => (rowN R q).runs).sum) * (r + 1))), some (.int (rowAt R (.whole (.retry r d) [i'])).clean), v6] = _
            rw [Int.zero_add, Int.mul_comm]
            rfl
          · refine ⟨?_, rfl⟩
            have e3 : r0 n + (n.parts.map fun q => (rowN R q).runs).sum = (rowAt R n).runs := by
              by_cases ej : n.word = "job"
              · obtain ⟨d, g, v, cl, fo, rfl⟩ := of_job ej
                rfl
              · rw [rowAt_runs R n ej, Nd.times_else e, Int.one_mul]
                cases n with
                | job d g v c f => exact absurd rfl ej
                | whole k ps => exact Int.zero_add _
            rw [e3]
        rintro σ H3' ⟨rfl, rfl⟩
        refine ⟨_, rfl, .inl ⟨rfl, _, SqL.of hp2⟩, _, rfl, _, rfl, _, rfl, three, fun t nt => ?_⟩
        have S3 := same_new (o := .tup [V.int (rowAt R n).deep, .int (rowAt R n).runs, .int (rowAt R n).clean]) nt
        have hp3 := S3 _ _ hp2
        have tp := Tp.lst (o := .lst (us ++ [V.ref t])) hp3
        refine ⟨p, us, _, rfl, rfl, hp3, ?_, ?_⟩
        · rw [ra.len, len0]
          exact small_line (by have := ok.len; omega)
        · refine ⟨_, _, _, _, _, us ++ [.ref t], rfl, same_upd ((S.trans S2).trans S3) np, upd_same, ?_⟩
          rw [tN]
          exact ((ra2.tp (Tp.same S3)).tp tp).more (tp.seq (SqT.of upd_same))
    · rintro σ H1 ⟨v2, v3, v4, v5, v6, us, rfl, S, hp, ra⟩
      rw [nv.len, List.take_length] at ra
      exact ⟨_, rfl, q p us H1 S hp ra⟩
end
end LB

set_option maxRecDepth 100000
set_option maxHeartbeats 2000000
namespace LB
open PySem PySem.Spec PyProof.Rows L2
/-! ### the walk with a row of open places -/
def ordStep (row : List Int) (i : Nat) (n : Nd) : Option (List Int) :=
  if n.parts.length ≤ row.length ∧ row.drop (row.length - n.parts.length) = n.parts then some (row.take (row.length - n.parts.length) ++ [(i : Int)]) else none
def ord : List Int → Nat → List Nd → Option (List Int)
  | row, i, [] => some row
  | row, i, n :: t => (ordStep row i n).bind fun r => ord r (i + 1) t
theorem ord_app : ∀ (A B : List Nd) (row : List Int) (i : Nat), ord row i (A ++ B) = (ord row i A).bind fun r => ord r (i + A.length) B
  | [], B, row, i => rfl
  | n :: t, B, row, i => by
    show (ordStep row i n).bind (fun r => ord r (i + 1) (t ++ B)) = ((ordStep row i n).bind fun r => ord r (i + 1) t).bind fun r => ord r (i + (t.length + 1)) B
    cases h : ordStep row i n with
    | none => rfl
    | some r =>
      show ord r (i + 1) (t ++ B) = (ord r (i + 1) t).bind fun r => ord r (i + (t.length + 1)) B
      rw [ord_app t B r (i + 1)]
      rw [show i + 1 + t.length = i + (t.length + 1) by omega]
theorem ord_snoc {N : List Nd} {i : Nat} {n : Nd} {row : List Int} (h : N[i]? = some n) (e : ord [] 0 (N.take i) = some row) : ord [] 0 (N.take (i + 1)) = ordStep row i n := by
  have hi := (List.getElem?_eq_some_iff.mp h).1
  rw [take_succ h, ord_app, e]
  show ord row (0 + (N.take i).length) [n] = _
  rw [List.length_take, Nat.min_eq_left (Nat.le_of_lt hi), Nat.zero_add]
  show (ordStep row i n).bind (fun r => some r) = _
  cases ordStep row i n <;> rfl
theorem ord_none {N : List Nd} {i : Nat} (e : ord [] 0 (N.take i) = none) : ord [] 0 N = none := by
  have h := ord_app (N.take i) (N.drop i) [] 0
  rw [List.take_append_drop, e] at h
  exact h
theorem ordStep_in {row r : List Int} {i : Nat} {n : Nd} (h : ordStep row i n = some r) (hr : ∀ q ∈ row, 0 ≤ q ∧ q < (i : Int)) : (∀ q ∈ n.parts, 0 ≤ q ∧ q < (i : Int)) ∧ ∀ q ∈ r, 0 ≤ q ∧ q < ((i + 1 : Nat) : Int) := by
  unfold ordStep at h
  split at h
  · rename_i c
    have h := Option.some.inj h
    refine ⟨fun q hq => ?_, fun q hq => ?_⟩
    · rw [← c.2] at hq
      exact hr q (List.mem_of_mem_drop hq)
    · rw [← h] at hq
      rcases List.mem_append.mp hq with z | z
      · have := hr q (List.mem_of_mem_take z)
        omega
      · rw [List.mem_singleton.mp z]
        omega
  · cases h
theorem ord_back : ∀ (A : List Nd) (row r : List Int) (k : Nat), ord row k A = some r → (∀ q ∈ row, 0 ≤ q ∧ q < (k : Int)) → Back k A ∧ ∀ q ∈ r, 0 ≤ q ∧ q < ((k + A.length : Nat) : Int)
  | [], row, r, k, h, hr => by
    have h : row = r := Option.some.inj h
    rw [← h]
    exact ⟨fun i n hn => by simp at hn, hr⟩
  | n :: t, row, r, k, h, hr => by
    have h : (ordStep row k n).bind (fun r => ord r (k + 1) t) = some r := h
    cases h1 : ordStep row k n with
    | none => rw [h1] at h; cases h
    | some r1 =>
      rw [h1] at h
      obtain ⟨a, b⟩ := ordStep_in h1 hr
      obtain ⟨c, d⟩ := ord_back t r1 r (k + 1) h b
      refine ⟨fun i m hm q hq => ?_, fun q hq => ?_⟩
      · match i, hm with
        | 0, hm =>
          have e : n = m := Option.some.inj hm
          rw [← e] at hq
          have h1 := a q hq
          exact ⟨h1.1, h1.2⟩
        | i + 1, hm =>
          have := c i m hm q hq
          exact ⟨this.1, by have h2 := this.2; omega⟩
      · have h2 := d q hq
        show 0 ≤ q ∧ q < ((k + (t.length + 1) : Nat) : Int)
        exact ⟨h2.1, by have h3 := h2.2; omega⟩
/-- a plan in all bounds -/
structure GoodN (N : List Nd) : Prop where
  ok : ∀ n ∈ N, NdOk n
  one : ∃ i : Int, ord [] 0 N = some [i]
  len : N.length ≤ 40
  sizes : ∀ R r, rowsOn [] N = R ++ [r] → r.deep ≤ 8 ∧ r.runs ≤ 60
theorem okN_of {N : List Nd} {r : List Int} (ok : ∀ n ∈ N, NdOk n) (h : ord [] 0 N = some r) (len : N.length ≤ 40) : OkN N := ⟨(ord_back N [] r 0 h (fun q hq => nomatch hq)).1, ok, len⟩
/-! ### shapes -/
/-- the parts are as many as the word says, where it says so -/
def Shp : Nd → Prop
  | .job .. => True
  | .whole (.plain _) _ => True
  | .whole (.pool _) _ => True
  | .whole (.timeout _) ps => ps.length = 1
  | .whole .orelse ps => ps.length = 2
  | .whole (.retry _ _) ps => ps.length = 1
theorem NdAt.shp {K : PySem.W.Frag} {H : Hp} {v : V} {n : Nd} (h : NdAt K H v n) : Shp n := by
  match n, h with
  | .job .., _ => exact trivial
  | .whole (.plain w) ps, _ => exact trivial
  | .whole (.pool n) ps, _ => exact trivial
  | .whole (.timeout t) ps, ⟨a, i, e0, _, _⟩ => rw [e0]; exact rfl
  | .whole .orelse ps, ⟨a, i, j, e0, _, _⟩ => rw [e0]; exact rfl
  | .whole (.retry r d) ps, ⟨a, i, e0, _, _⟩ => rw [e0]; exact rfl
/-- the numbers of a node: place, least, most, what stands there -/
structure Num where
  at_ : Int
  lo : Int
  hi : Int
  is : Int
def Nd.nums : Nd → List Num
  | .job d _ v c _ => [⟨1, 0, 1000, d⟩, ⟨3, 0, 999, v⟩, ⟨4, 0, 100, c⟩]
  | .whole (.pool m) _ => [⟨1, 1, 6, m⟩]
  | .whole (.timeout t) _ => [⟨1, 0, 1000, t⟩]
  | .whole (.retry r d) _ => [⟨1, 0, 5, r⟩, ⟨2, 0, 100, d⟩]
  | .whole _ _ => []
def inB (x lo hi : Int) : Bool := decide (lo ≤ x ∧ x ≤ hi)
def numsB (n : Nd) : Bool := (n.nums.map fun q => inB q.is q.lo q.hi).all id
def faultB (f : Option Int) : Bool := match f with
  | none => true
  | some x => inB x 0 999
def partsB (ps : List Int) : Bool := decide (1 ≤ ps.length ∧ ps.length ≤ 6) && (ps.map fun q => inB q 0 39).all id
def nodeB (n : Nd) : Bool := numsB n && (match n with
  | .job _ _ _ _ f => faultB f
  | .whole _ ps => partsB ps)
theorem inB_iff {x lo hi : Int} : inB x lo hi = true ↔ lo ≤ x ∧ x ≤ hi := ⟨fun h => of_decide_eq_true h, fun h => decide_eq_true h⟩
theorem faultB_iff {f : Option Int} : faultB f = true ↔ ∀ x, f = some x → 0 ≤ x ∧ x ≤ 999 := by
  cases f with
  | none => exact ⟨fun _ x e => (nomatch e), fun _ => rfl⟩
  | some y => exact ⟨fun h x e => by rw [← Option.some.inj e]; exact inB_iff.mp h, fun h => inB_iff.mpr (h y rfl)⟩
theorem partsB_iff {ps : List Int} : partsB ps = true ↔ (1 ≤ ps.length ∧ ps.length ≤ 6) ∧ ∀ q ∈ ps, 0 ≤ q ∧ q ≤ 39 := by
  unfold partsB
  rw [Bool.and_eq_true, decide_eq_true_iff, List.all_eq_true]
  refine and_congr Iff.rfl ⟨fun h q hq => ?_, fun h x hx => ?_⟩
  · exact inB_iff.mp (h _ (List.mem_map_of_mem hq))
  · obtain ⟨q, hq, e⟩ := List.mem_map.mp hx
    rw [← e]
    exact inB_iff.mpr (h q hq)
theorem nodeB_iff {n : Nd} (s : Shp n) : nodeB n = true ↔ NdOk n ∧ ∀ q ∈ n.parts, 0 ≤ q ∧ q ≤ 39 := by
  match n, s with
  | .job d g v c f, _ =>
    show ((inB d 0 1000 && (inB v 0 999 && (inB c 0 100 && true))) && faultB f) = true ↔ JobOk d v c f ∧ _
    rw [Bool.and_eq_true, Bool.and_eq_true, Bool.and_eq_true, Bool.and_eq_true, inB_iff, inB_iff, inB_iff, faultB_iff]
    constructor
    · intro h
      exact ⟨⟨h.1.1, h.1.2.1, h.1.2.2.1, h.2⟩, fun q hq => (nomatch hq)⟩
    · intro h
      exact ⟨⟨h.1.1, h.1.2.1, h.1.2.2.1, rfl⟩, h.1.2.2.2⟩
  | .whole (.plain w) ps, _ =>
    show (true && partsB ps) = true ↔ (1 ≤ ps.length ∧ ps.length ≤ 6) ∧ ∀ q ∈ ps, _
    rw [Bool.true_and, partsB_iff]
  | .whole (.pool m) ps, _ =>
    show ((inB m 1 6 && true) && partsB ps) = true ↔ (1 ≤ ps.length ∧ ps.length ≤ 6 ∧ 1 ≤ m ∧ m ≤ 6) ∧ ∀ q ∈ ps, _
    rw [Bool.and_true, Bool.and_eq_true, partsB_iff, inB_iff]
    exact ⟨fun h => ⟨⟨h.2.1.1, h.2.1.2, h.1⟩, h.2.2⟩, fun h => ⟨h.1.2.2, ⟨h.1.1, h.1.2.1⟩, h.2⟩⟩
  | .whole (.timeout t) ps, s =>
    have s : ps.length = 1 := s
    show ((inB t 0 1000 && true) && partsB ps) = true ↔ (ps.length = 1 ∧ 0 ≤ t ∧ t ≤ 1000) ∧ ∀ q ∈ ps, _
    rw [Bool.and_true, Bool.and_eq_true, partsB_iff, inB_iff]
    exact ⟨fun h => ⟨⟨s, h.1⟩, h.2.2⟩, fun h => ⟨h.1.2, ⟨by omega, by omega⟩, h.2⟩⟩
  | .whole .orelse ps, s =>
    have s : ps.length = 2 := s
    show (true && partsB ps) = true ↔ (ps.length = 2) ∧ ∀ q ∈ ps, _
    rw [Bool.true_and, partsB_iff]
    exact ⟨fun h => ⟨s, h.2⟩, fun h => ⟨⟨by omega, by omega⟩, h.2⟩⟩
  | .whole (.retry r d) ps, s =>
    have s : ps.length = 1 := s
    show ((inB r 0 5 && (inB d 0 100 && true)) && partsB ps) = true ↔ (ps.length = 1 ∧ 0 ≤ r ∧ r ≤ 5 ∧ 0 ≤ d ∧ d ≤ 100) ∧ ∀ q ∈ ps, _
    rw [Bool.and_true, Bool.and_eq_true, Bool.and_eq_true, partsB_iff, inB_iff, inB_iff]
    exact ⟨fun h => ⟨⟨s, h.1.1.1, h.1.1.2, h.1.2.1, h.1.2.2⟩, h.2.2⟩, fun h => ⟨⟨⟨h.1.2.1, h.1.2.2.1⟩, h.1.2.2.2.1, h.1.2.2.2.2⟩, ⟨by omega, by omega⟩, h.2⟩⟩
/-! ### tuples of whole numbers, compared -/
theorem eqvAll_ints : ∀ (a b : List Int), PyData.eqvAll (a.map PyData.int) (b.map PyData.int) = decide (a = b)
  | [], [] => rfl
  | [], _ :: _ => rfl
  | _ :: _, [] => rfl
  | x :: a, y :: b => by
    show ((x == y) && PyData.eqvAll (a.map PyData.int) (b.map PyData.int)) = _
    rw [eqvAll_ints a b]
    by_cases h1 : x = y
    · by_cases h2 : a = b
      · rw [decide_eq_true h2, decide_eq_true (by rw [h1, h2]), h1]
        simp
      · rw [decide_eq_false h2, decide_eq_false (fun e => h2 (List.cons.inj e).2), Bool.and_false]
    · rw [beq_false_of_ne h1, decide_eq_false (fun e => h1 (List.cons.inj e).1), Bool.false_and]
theorem eqv_tups (a b : List Int) : PyData.eqv (.tuple (a.map PyData.int)) (.tuple (b.map PyData.int)) = decide (a = b) := eqvAll_ints a b
end LB

set_option maxRecDepth 100000
set_option maxHeartbeats 8000000
namespace LB
open PySem PySem.Spec PyProof.Rows L2
/-! ### what the top has written for the checks -/
structure NamesQ (mg : Str → Option Value) : Prop extends NamesP mg where
  isi : mg "isinstance" = none
  bool : mg "bool" = none
  str : mg "str" = none
  all : mg "all" = none
  enum : mg "enumerate" = none
  list : mg "list" = none
structure Cons (mg : Str → Option Value) : Prop where
  nm : ∃ t, mg "NODES_MOST" = some (.int 40 t)
  dm : ∃ t, mg "DEPTH_MOST" = some (.int 8 t)
  rm : ∃ t, mg "RUNS_MOST" = some (.int 60 t)
  pm : ∃ t, mg "PARTS_MOST" = some (.int 6 t)
  fm : ∃ t, mg "FAULT_MOST" = some (.int 999 t)
/-- how many items it has -/
def Nd.items : Nd → Nat
  | .job .. => 6
  | .whole (.plain _) _ => 2
  | .whole (.pool _) _ => 3
  | .whole (.timeout _) _ => 3
  | .whole .orelse _ => 3
  | .whole (.retry _ _) _ => 4
structure Tabs (K : PySem.W.Frag) (w : World) (mg : Str → Option Value) (dL dN : Addr) : Prop where
  gL : mg "LENGTHS" = some (.ref dL)
  gN : mg "NUMBERS" = some (.ref dN)
  kL : ∃ es n, KDict K w dL es n
  len : ∀ n : Nd, KDct K w dL n.word (.int (n.items : Nat))
  num : ∀ n : Nd, ∃ (t : Addr) (vs : List V), KDct K w dN n.word (.ref t) ∧ (∀ H, SqT K H t vs) ∧ vs.length = n.nums.length ∧ ∀ (j : Nat) (q : Num), n.nums[j]? = some q → ∃ m : Addr, vs[j]? = some (.ref m) ∧ ∀ H, SqT K H m [.int q.at_, .int q.lo, .int q.hi]
theorem NdAt.full {K : PySem.W.Frag} {H : Hp} {v : V} {n : Nd} (h : NdAt K H v n) : ∃ a xs, v = .ref a ∧ SqT K H a xs ∧ xs.length = n.items ∧ atI xs 0 = some (.str n.word) ∧ ∀ q ∈ n.nums, atI xs q.at_ = some (.int q.is) := by
  match n, h with
  | .job .., ⟨a, e, q⟩ =>
    refine ⟨a, _, e, q, rfl, rfl, fun q hq => ?_⟩
    rcases List.mem_cons.mp hq with rfl | hq
    · rfl
    rcases List.mem_cons.mp hq with rfl | hq
    · rfl
    · rw [List.mem_singleton.mp hq]
      rfl
  | .whole (.plain w) ps, ⟨a, b, e, q, r⟩ => exact ⟨a, _, e, q, rfl, rfl, fun q hq => (nomatch hq)⟩
  | .whole (.pool n) ps, ⟨a, b, e, q, r⟩ => exact ⟨a, _, e, q, rfl, rfl, fun q hq => by rw [List.mem_singleton.mp hq]; rfl⟩
  | .whole (.timeout t) ps, ⟨a, i, e0, e, q⟩ => exact ⟨a, _, e, q, rfl, rfl, fun q hq => by rw [List.mem_singleton.mp hq]; rfl⟩
  | .whole .orelse ps, ⟨a, i, j, e0, e, q⟩ => exact ⟨a, _, e, q, rfl, rfl, fun q hq => (nomatch hq)⟩
  | .whole (.retry r d) ps, ⟨a, i, e0, e, q⟩ =>
    refine ⟨a, _, e, q, rfl, rfl, fun q hq => ?_⟩
    rcases List.mem_cons.mp hq with rfl | hq
    · rfl
    · rw [List.mem_singleton.mp hq]
      rfl
theorem tyx_tup {K : PySem.W.Frag} {H : Hp} {a : Addr} {xs : List V} (h : SqT K H a xs) : TyX K H (.ref a) (.type "tuple") := by
  rcases h with (h | ⟨o, h⟩) | ⟨o, its, n, h, hc, _⟩
  · exact .base (.tup h)
  · exact .fTuple h
  · exact .kTuple h hc
theorem pg_tupK {X : Cx} {K : PySem.W.Frag} {pos : Pos} {es : List PySem.Expr} {k : Nat} {t : TGs} {n : Nat} (hK : X.K = K) (hc : X.calm = true) (h : PGs X es t) (h1 : (assignEach es X.env).length = n := by rfl) (h2 : List.findIdx? (fun x => x.fst) (assignEach es X.env) = none := by rfl) :
    PG X (.Tuple es k pos) (gTup K n t) := by
  subst hK
  exact pg_tup hc h h1 h2
theorem map_atB {α : Type} {ns : List α} {f : α → V} {j : Nat} {x : V} (h : (ns.map f)[j]? = some x) : ∃ q, ns[j]? = some q ∧ x = f q := by
  rw [List.getElem?_map] at h
  obtain ⟨q, h1, h2⟩ := Option.map_eq_some_iff.mp h
  exact ⟨q, h1, h2.symm⟩
section
variable {P : Program} {w : World} {K : PySem.W.Frag} {mg : Str → Option Value} {base : Heap} {dL dN : Addr}
def spNum (K : PySem.W.Frag) : Sp := fun vs H Q _ => ∃ x lo hi : Int, vs = [.int x, .int lo, .int hi] ∧ Q (.bl (inB x lo hi)) H
theorem scIsNum : FnScope ["value", "least", "most"] ["value", "least", "most"] (defScope sIsNum) := ⟨rfl, rfl, rfl, by decide +kernel, rfl, by decide +kernel, by decide +kernel⟩
theorem ok_num {f : Addr} {fd : FuncData} (F : Fun K "is_number" "is_number" sIsNum f fd) (M : NamesQ mg) : FnOk P w K mg base CX0 1 f fd ["value", "least", "most"] (spNum K) := by
  refine F.ok scIsNum (fun vs H Q E h => ?_) (fun cdv A outer s H vs Q E hr h => ?_)
  · obtain ⟨x, lo, hi, rfl, _⟩ := h
    rfl
  · obtain ⟨x, lo, hi, rfl, q⟩ := h
    refine ⟨_, (pss_cons (ps_if (PW.pt (pw_or (pt_not (pt_val (pe_callB call_isi (by rfl) M.isi PyProof.Rows.boot_isinstance (pa_cons (pv 0) (pa_cons (pe_bltn (v := .ty "int") (by rfl) M.int (by decide +kernel) rfl) pa_nil))))) (pw_or1 (pt_val (pe_callB call_isi (by rfl) M.isi PyProof.Rows.boot_isinstance (pa_cons (pv 0) (pa_cons (pe_bltn (v := .ty "bool") (by rfl) M.bool (by decide +kernel) rfl) pa_nil))))))) (pss_one (ps_ret pe_bl)) pss_nil)
        (pss_one (ps_ret (pe_chain op_le op_le (pv 1) (pv 0) (pv 2))))), ?_⟩
    refine ⟨_, rfl, .int x, .ty "int", _, _, true, rfl, .ty _, .base (.int x), kit_ty (by decide +kernel), _, rfl, iteF ?_⟩
    refine ⟨_, rfl, .int x, .ty "bool", _, _, false, rfl, .ty _, .base (.int x), kit_ty (by decide +kernel), _, rfl, iteF ?_⟩
    refine ⟨_, rfl, _, rfl, _, _, rfl, rfl, _, rfl, ite2 (fun c1 => ?_) (fun c1 => ?_)⟩
    · have c1 := of_decide_eq_true c1
      refine ⟨_, rfl, _, _, rfl, rfl, ?_⟩
      have e : inB x lo hi = decide (x ≤ hi) := by
        unfold inB
        by_cases c : x ≤ hi
        · rw [decide_eq_true c, decide_eq_true ⟨c1, c⟩]
        · rw [decide_eq_false c, decide_eq_false fun z => c z.2]
      rw [e] at q
      exact q
    · have e : inB x lo hi = false := decide_eq_false fun z => c1 (decide_eq_true z.1)
      rw [e] at q
      exact q
def spFault (K : PySem.W.Frag) : Sp := fun vs H Q _ => ∃ f : Option Int, vs = [optV f] ∧ Q (.bl (faultB f)) H
theorem scIsFault : FnScope ["value"] ["value"] (defScope sIsFault) := ⟨rfl, rfl, rfl, by decide +kernel, rfl, by decide +kernel, by decide +kernel⟩
theorem ok_fault {f fN : Addr} {fd fdN : FuncData} (F : Fun K "is_fault" "is_fault" sIsFault f fd) (M : NamesQ mg) (C : Cons mg) (FN : Fun K "is_number" "is_number" sIsNum fN fdN) (mN : mg "is_number" = some (.ref fN)) (bN : Binds K fdN ["value", "least", "most"] []) :
    FnOk P w K mg base CX0 2 f fd ["value"] (spFault K) := by
  have GN : FnOk P w K mg base CX0 1 fN fdN ["value", "least", "most"] (spNum K) := ok_num FN M
  have kN := FN.kp
  obtain ⟨ft, fm⟩ := C.fm
  refine F.ok scIsFault (fun vs H Q E h => ?_) (fun cdv A outer s H vs Q E hr h => ?_)
  · obtain ⟨fo, rfl, _⟩ := h
    rfl
  · obtain ⟨fo, rfl, q⟩ := h
    refine ⟨_, (pss_one (ps_ret (pe_or (pe_cmpR op_isN (pv 0) pe_non (nomark _)) (pe_one (pe_call GN (hr.mono (by decide)) rfl mN kN bN .nil pass0 (pa_cons (pv 0) (pa_cons pe_int (pa_cons (pe_glob (v := .int 999) rfl fm ⟨_, rfl⟩) pa_nil)))))))), ?_⟩
    cases fo with
    | none => exact ⟨_, rfl, rfl, _, rfl, iteT q⟩
    | some x => exact ⟨_, rfl, rfl, _, rfl, iteF ⟨_, rfl, x, 0, 999, rfl, q⟩⟩
def spAreParts (K : PySem.W.Frag) : Sp := fun vs H Q _ => ∃ (t : Addr) (ps : List Int), vs = [.ref t] ∧ SqT K H t (ps.map V.int) ∧ ∀ H', Same H H' → Q (.bl (partsB ps)) H'
theorem scAreParts : FnScope ["parts", "part"] ["parts"] (defScope sAreParts) := ⟨rfl, rfl, rfl, by decide +kernel, rfl, by decide +kernel, by decide +kernel⟩
theorem ok_areparts {f fN : Addr} {fd fdN : FuncData} (F : Fun K "are_parts" "are_parts" sAreParts f fd) (M : NamesQ mg) (C : Cons mg) (FN : Fun K "is_number" "is_number" sIsNum fN fdN) (mN : mg "is_number" = some (.ref fN)) (bN : Binds K fdN ["value", "least", "most"] []) :
    FnOk P w K mg base CX0 2 f fd ["parts"] (spAreParts K) := by
  have GN : FnOk P w K mg base CX0 1 fN fdN ["value", "least", "most"] (spNum K) := ok_num FN M
  have kN := FN.kp
  obtain ⟨nt, nm⟩ := C.nm
  obtain ⟨pt, pm⟩ := C.pm
  refine F.ok scAreParts (fun vs H Q E h => ?_) (fun cdv A outer s H vs Q E hr h => ?_)
  · obtain ⟨t, ps, rfl, _⟩ := h
    rfl
  · obtain ⟨t, ps, rfl, sq, q⟩ := h
    have nd := scAreParts.nd
    refine ⟨_, (pss_cons (ps_if (PW.pt (pw_or (pt_not (pt_val (pe_callB call_isi (by rfl) M.isi PyProof.Rows.boot_isinstance (pa_cons (pv 0) (pa_cons (pe_bltn (v := .ty "tuple") (by rfl) M.tuple (by decide +kernel) rfl) pa_nil))))) (pw_or1 (pt_not (pt_chain op_le op_le pe_int (pe_callB call_len_seq (by rfl) M.len PySem.boot_len (pa_cons (pv 0) pa_nil)) (pe_glob (v := .int 6) rfl pm ⟨_, rfl⟩)))))) (pss_one (ps_ret pe_bl)) pss_nil)
        (pss_one (ps_ret (pe_callB (cr_all rfl) (by rfl) M.all (by decide +kernel) (pa_cons (pe_lc (own := [("part", 1)]) (g := (gName 1)) rfl nd (pi_tup (pv 0)) (blkOk_by (N := ["parts", "part"]) (sc := (defScope sAreParts)) (by decide +kernel)) (fun _ _ _ _ _ => (pg_name (i := 1) nd rfl (Or.inl rfl))) (fun _ _ _ _ _ => pts_nil) (fun _ _ _ _ _ => (pe_call GN (hr.mono (by decide)) rfl mN kN bN .nil pass0 (pa_cons (pv 1) (pa_cons pe_int (pa_cons (pe_op op_sub (pe_glob (v := .int 40) rfl nm ⟨_, rfl⟩) pe_int) pa_nil)))))) pa_nil))))), ?_⟩
    refine ⟨_, rfl, .ref t, .ty "tuple", _, _, true, rfl, .ty _, tyx_tup sq, kit_ty (by decide +kernel), _, rfl, iteF ?_⟩
    have bad : ¬ (1 ≤ ps.length ∧ ps.length ≤ 6) → partsB ps = false := fun h => by
      unfold partsB
      rw [decide_eq_false h, Bool.false_and]
    refine ⟨_, rfl, t, _, rfl, .inr sq, _, _, rfl, rfl, _, rfl, ite2 (fun c1 => ?_) (fun c1 => ?_)⟩
    · have c1 := of_decide_eq_true c1
      rw [List.length_map] at c1
      refine ⟨_, _, rfl, rfl, _, rfl, ite2 (fun c2 => ?_) (fun c2 => ?_)⟩
      · have c2 : ¬ (((ps.map V.int).length : Int) ≤ 6) := by simpa using c2
        rw [List.length_map] at c2
        have e := q H (Same.refl H)
        rw [bad (by omega)] at e
        exact e
      · have c2 : ((ps.map V.int).length : Int) ≤ 6 := by simpa using c2
        rw [List.length_map] at c2
        have lb : 1 ≤ ps.length ∧ ps.length ≤ 6 := ⟨by omega, by omega⟩
        refine ⟨_, rfl, t, rfl, ⟨_, sq⟩, fun D nD => ?_⟩
        refine lc_tup (xs := ps.map V.int) (fun j H' => Same H H' ∧ H' D = some (.lst (((ps.take j).map fun p => inB p 0 39).map V.bl)))
          ⟨same_new nD, upd_same⟩ (fun j H' _ h => (Tp.same h.1).seq sq) ?_ ?_
        · rintro j x H3 hx ⟨S3, hD⟩
          obtain ⟨p, hp, rfl⟩ := map_at hx
          refine ⟨rfl, _, rfl, _, _, rfl, rfl, p, 0, 39, rfl, _, hD, ?_, same_upd S3 nD, ?_⟩
          · rw [List.length_map, List.length_map, List.length_take]
            exact small_line (by omega)
          · rw [take_succ hp, List.map_append, List.map_append]
            exact upd_same
        · rintro H3 ⟨S3, hD⟩
          rw [List.length_map, List.take_length] at hD
          refine ⟨D, _, rfl, SqL.of hD, ?_⟩
          have e := q H3 S3
          unfold partsB at e
          rw [decide_eq_true lb, Bool.true_and] at e
          exact e
    · have c1 : ¬ 1 ≤ ((ps.map V.int).length : Int) := fun y => c1 (decide_eq_true y)
      rw [List.length_map] at c1
      have e := q H (Same.refl H)
      rw [bad (by omega)] at e
      exact ⟨_, rfl, iteT e⟩
end
end LB

set_option maxRecDepth 100000
set_option maxHeartbeats 8000000
namespace LB
open PySem PySem.Spec PyProof.Rows L2
theorem tab_row {K : PySem.W.Frag} {vs : List V} {n : Nd} (hl : vs.length = n.nums.length) (h : ∀ (j : Nat) (q : Num), n.nums[j]? = some q → ∃ m : Addr, vs[j]? = some (.ref m) ∧ ∀ H, SqT K H m [.int q.at_, .int q.lo, .int q.hi]) {j : Nat} {x : V} (hx : vs[j]? = some x) :
    ∃ (q : Num) (m : Addr), n.nums[j]? = some q ∧ x = .ref m ∧ ∀ H, SqT K H m [.int q.at_, .int q.lo, .int q.hi] := by
  have hj : j < n.nums.length := by rw [← hl]; exact (List.getElem?_eq_some_iff.mp hx).1
  obtain ⟨m, e, s⟩ := h j _ (List.getElem?_eq_getElem hj)
  exact ⟨_, m, List.getElem?_eq_getElem hj, Option.some.inj (hx.symm.trans e), s⟩
section
variable {P : Program} {w : World} {K : PySem.W.Frag} {mg : Str → Option Value} {base : Heap} {dL dN : Addr}
def spIsNode (K : PySem.W.Frag) : Sp := fun vs H Q _ => ∃ (v : V) (n : Nd), vs = [v] ∧ NdAt K H v n ∧ ∀ H', Same H H' → Q (.bl (nodeB n)) H'
theorem scIsNode : FnScope ["node", "word", "place", "least", "most"] ["node"] (defScope sIsNode) := ⟨rfl, rfl, rfl, by decide +kernel, rfl, by decide +kernel, by decide +kernel⟩
theorem ok_isnode {f fN fF fA fP : Addr} {fd fdN fdF fdA fdP : FuncData} (F : Fun K "is_node" "is_node" sIsNode f fd) (M : NamesQ mg) (C : Cons mg) (T : Tabs K w mg dL dN) (FN : Fun K "is_number" "is_number" sIsNum fN fdN) (mN : mg "is_number" = some (.ref fN)) (bN : Binds K fdN ["value", "least", "most"] [])
    (FF : Fun K "is_fault" "is_fault" sIsFault fF fdF) (mF : mg "is_fault" = some (.ref fF)) (bF : Binds K fdF ["value"] []) (FA : Fun K "are_parts" "are_parts" sAreParts fA fdA) (mA : mg "are_parts" = some (.ref fA)) (bA : Binds K fdA ["parts"] [])
    (FP : Fun K "parts_of" "parts_of" sParts fP fdP) (mP : mg "parts_of" = some (.ref fP)) (bP : Binds K fdP ["node"] []) : FnOk P w K mg base CX0 3 f fd ["node"] (spIsNode K) := by
  have GN : FnOk P w K mg base CX0 1 fN fdN ["value", "least", "most"] (spNum K) := ok_num FN M
  have GF : FnOk P w K mg base CX0 2 fF fdF ["value"] (spFault K) := ok_fault FF M C FN mN bN
  have GA : FnOk P w K mg base CX0 2 fA fdA ["parts"] (spAreParts K) := ok_areparts FA M C FN mN bN
  have GP : FnOk P w K mg base CX0 1 fP fdP ["node"] (spParts K) := ok_parts FP
  have kN := FN.kp
  have kF := FF.kp
  have kA := FA.kp
  have kP := FP.kp
  obtain ⟨es, en, KL⟩ := T.kL
  refine F.ok scIsNode (fun vs H Q E h => ?_) (fun cdv A outer s H vs Q E hr h => ?_)
  · obtain ⟨v, n, rfl, _⟩ := h
    rfl
  · obtain ⟨v, n, rfl, nv, q⟩ := h
    have nd := scIsNode.nd
    have two : (2 : Nat) ≤ sizeLine := by decide
    obtain ⟨a, xs, rfl, sq, hlen, hw, hnum⟩ := nv.full
    refine ⟨_, (pss_cons (ps_if (PW.pt (pw_or (pt_not (pt_val (pe_callB call_isi (by rfl) M.isi PyProof.Rows.boot_isinstance (pa_cons (pv 0) (pa_cons (pe_bltn (v := .ty "tuple") (by rfl) M.tuple (by decide +kernel) rfl) pa_nil))))) (pw_or1 (pt_cmpR op_eq (pe_callB call_len_seq (by rfl) M.len PySem.boot_len (pa_cons (pv 0) pa_nil)) pe_int (nomark _))))) (pss_one (ps_ret pe_bl)) pss_nil)
        (pss_cons (ps_set (i := 1) nd rfl (Or.inl rfl) (pe_ix ix_tup (pv 0) pe_int (fun _ _ => rfl)))
        (pss_cons (ps_if (PW.pt (pw_or (pt_not (pt_val (pe_callB call_isi (by rfl) M.isi PyProof.Rows.boot_isinstance (pa_cons (pv 1) (pa_cons (pe_bltn (v := .ty "str") (by rfl) M.str (by decide +kernel) rfl) pa_nil))))) (pw_or (pt_cmpR (op_notIn_kd KL) (pv 1) (pe_glob (v := .ref dL) rfl T.gL rfl) rfl) (pw_or1 (pt_cmpR op_ne (pe_callB call_len_seq (by rfl) M.len PySem.boot_len (pa_cons (pv 0) pa_nil)) (pe_ix ix_kdict (pe_glob (v := .ref dL) rfl T.gL rfl) (pv 1) (fun _ _ => rfl)) (nomark _)))))) (pss_one (ps_ret pe_bl)) pss_nil)
        (pss_cons (ps_if (pt_not (pt_val (pe_callB (cr_all rfl) (by rfl) M.all (by decide +kernel) (pa_cons (pe_lc (own := [("place", 2), ("least", 3), ("most", 4)]) (g := (gTup K 3 (gCons (gName 2) (gCons (gName 3) (gCons (gName 4) gNil))))) rfl nd (pi_tup (pe_ix ix_kdict (pe_glob (v := .ref dN) rfl T.gN rfl) (pv 1) (fun _ _ => rfl))) (blkOk_by (N := ["node", "word", "place", "least", "most"]) (sc := (defScope sIsNode)) (by decide +kernel)) (fun _ _ _ _ _ => (pg_tupK (K := K) rfl rfl (pgs_cons (pg_name (i := 2) nd rfl (Or.inl rfl)) (pgs_cons (pg_name (i := 3) nd rfl (Or.inl rfl)) (pgs_cons (pg_name (i := 4) nd rfl (Or.inl rfl)) pgs_nil))))) (fun _ _ _ _ _ => pts_nil) (fun _ _ _ _ _ => (pe_call GN (hr.mono (by decide)) rfl mN kN bN .nil pass0 (pa_cons (pe_ix (ix_tupK (K := K) rfl) (pv 0) (pv 2) (fun _ _ => rfl)) (pa_cons (pv 3) (pa_cons (pv 4) pa_nil)))))) pa_nil)))) (pss_one (ps_ret pe_bl)) pss_nil)
        (pss_cons (ps_if (pt_cmpR op_eq (pv 1) pe_str (nomark _)) (pss_one (ps_ret (pe_and (pe_cmpR op_in_seq (pe_ix ix_tup (pv 0) pe_int (fun _ _ => rfl)) (pe_tup (pa_cons pe_str (pa_cons pe_str pa_nil))) rfl) (pe_one (pe_call GF (hr.mono (by decide)) rfl mF kF bF .nil pass0 (pa_cons (pe_ix ix_tup (pv 0) pe_int (fun _ _ => rfl)) pa_nil)))))) pss_nil)
        (pss_one (ps_ret (pe_call GA (hr.mono (by decide)) rfl mA kA bA .nil pass0 (pa_cons (pe_call GP (hr.mono (by decide)) rfl mP kP bP .nil pass0 (pa_cons (pv 0) pa_nil)) pa_nil))))))))), ?_⟩
    refine ⟨_, rfl, .ref a, .ty "tuple", _, _, true, rfl, .ty _, tyx_tup sq, kit_ty (by decide +kernel), _, rfl, iteF ?_⟩
    refine ⟨_, rfl, a, _, rfl, .inr sq, rfl, _, rfl, ite2 (fun c => ?_) (fun _ => ?_)⟩
    · exfalso
      have c := V.int.inj (of_decide_eq_true c)
      have : 0 < n.items := by
        cases n with
        | job => exact Nat.succ_pos _
        | whole k ps => cases k <;> exact Nat.succ_pos _
      omega
    refine ⟨_, rfl, a, _, _, _, rfl, rfl, sq, hw, ?_⟩
    refine ⟨_, rfl, .str n.word, .ty "str", _, _, true, rfl, .ty _, .base (.str _), kit_ty (by decide +kernel), _, rfl, iteF ?_⟩
    have kd := T.len n
    obtain ⟨es2, en2, u, h1, h2, h3, h4⟩ := kd
    refine ⟨_, rfl, _, _, rfl, rfl, h3, _, rfl, iteF ?_⟩
    refine ⟨_, rfl, a, _, rfl, .inr sq, _, rfl, _, _, _, rfl, rfl, T.len n, rfl, _, rfl, iteNS (congrArg V.int (congrArg Nat.cast hlen)) ?_⟩
    -- the numbers
    obtain ⟨t, vs, kn, st, hl, hrow⟩ := T.num n
    refine ⟨_, rfl, _, _, _, rfl, rfl, kn, t, rfl, ⟨_, st _⟩, fun D nD => ?_⟩
    refine lc_tup (xs := vs) (fun j H' => Same H H' ∧ H' D = some (.lst (((n.nums.take j).map fun q => inB q.is q.lo q.hi).map V.bl)))
      ⟨same_new nD, upd_same⟩ (fun j H' _ h => st _) ?_ ?_
    · rintro j x H3 hx ⟨S3, hD⟩
      obtain ⟨p, m, hp, rfl, sm⟩ := tab_row hl hrow hx
      have hit := hnum p (List.mem_of_getElem? hp)
      refine ⟨m, _, rfl, sm _, rfl, _, _, rfl, _, _, rfl, _, _, rfl, rfl, rfl, _, rfl, _, rfl, a, _, _, _, rfl, rfl, (Tp.same S3).seq sq, hit, _, rfl, _, rfl, p.is, p.lo, p.hi, rfl, _, hD, ?_, same_upd S3 nD, ?_⟩
      · rw [List.length_map, List.length_map, List.length_take]
        have : n.nums.length ≤ 3 := by
          match n with
          | .job .. => exact (by decide : 3 ≤ 3)
          | .whole (.plain _) _ => exact (by decide : 0 ≤ 3)
          | .whole (.pool _) _ => exact (by decide : 1 ≤ 3)
          | .whole (.timeout _) _ => exact (by decide : 1 ≤ 3)
          | .whole .orelse _ => exact (by decide : 0 ≤ 3)
          | .whole (.retry _ _) _ => exact (by decide : 2 ≤ 3)
        exact small_line (by omega)
      · rw [take_succ hp, List.map_append, List.map_append]
        exact upd_same
    rintro H3 ⟨S3, hD⟩
    rw [hl, List.take_length] at hD
    refine ⟨D, _, rfl, SqL.of hD, _, rfl, ?_⟩
    have nv3 := nv.tp (Tp.same S3)
    have sq3 := (Tp.same S3).seq sq
    refine ite2 (fun c => ?_) (fun c => ?_)
    · have c : numsB n = false := by simpa [numsB] using c
      have e := q H3 S3
      unfold nodeB at e
      rw [c, Bool.false_and] at e
      exact e
    · have c : numsB n = true := by
        cases h : numsB n with
        | true => rfl
        | false => exact absurd (by rw [show List.all (n.nums.map fun q => inB q.is q.lo q.hi) id = false from h]; rfl) c
      refine ⟨_, rfl, rfl, _, rfl, ite_str (fun e => ?_) (fun n1 => ?_)⟩
      · obtain ⟨d, g, x, cl, fo, rfl⟩ := of_job e
        obtain ⟨a', e2, sj⟩ := nv3
        cases e2
        refine ⟨_, rfl, a, _, _, _, rfl, rfl, sj, rfl, two, fun t2 nt2 => ⟨t2, _, rfl, .inr (SqT.of upd_same), rfl, rfl, _, rfl, ?_⟩⟩
        have S4 := same_new (o := .tup [V.str "gives", .str "throws"]) nt2
        have hin : inV (V.str (if g then "gives" else "throws")) [V.str "gives", V.str "throws"] = true := in_two_of (by cases g <;> simp)
        refine ite2 (fun _ => ?_) (fun c => absurd hin c)
        refine ⟨_, rfl, a, _, _, _, rfl, rfl, (Tp.same S4).seq sj, rfl, fo, rfl, ?_⟩
        have e := q _ (S3.trans S4)
        unfold nodeB at e
        rw [c, Bool.true_and] at e
        exact e
      · refine ⟨_, rfl, _, n, rfl, nv3, fun t2 H4 S4 s4 => ⟨t2, n.parts, rfl, s4, fun H5 S5 => ?_⟩⟩
        have e := q _ (S3.trans (S4.trans S5))
        unfold nodeB at e
        rw [c, Bool.true_and] at e
        cases n with
        | job => exact absurd rfl n1
        | whole k ps => exact e
end
end LB

set_option maxRecDepth 100000
set_option maxHeartbeats 8000000
namespace LB
open PySem PySem.Spec PyProof.Rows L2
theorem dp_ints {K : PySem.W.Frag} {H : Hp} : ∀ {ns : List Int}, DpAll K H (ns.map V.int) (ns.map PyData.int)
  | [] => .nil
  | n :: r => .cons (.int n) dp_ints
theorem lay_ints : ∀ (ns : List Int), PyData.canLayAll0 (ns.map PyData.int) = true
  | [] => rfl
  | n :: r => by
    show (true && PyData.canLayAll0 (r.map PyData.int)) = true
    rw [lay_ints r] <;> rfl
theorem deep_ints : ∀ (ns : List Int), PyData.depthAll (ns.map PyData.int) = 0
  | [] => rfl
  | n :: r => by
    show max 0 (PyData.depthAll (r.map PyData.int)) = 0
    rw [deep_ints r] <;> rfl
theorem shaped_tup (ns : List Int) : SeqAt.shaped (.tuple (ns.map PyData.int)) = true := by
  show (PyData.canLayAll0 (ns.map PyData.int) && decide (PyData.depthAll (ns.map PyData.int) + 1 ≤ 64)) = true
  rw [lay_ints, deep_ints] <;> rfl
/-- the end of a row of places, cut as the program cuts it -/
theorem cut_end {row ps : List Int} : (cutV (row.map V.int) (some ((row.length : Int) - (ps.length : Int))) none = ps.map V.int) ↔ (ps.length ≤ row.length ∧ row.drop (row.length - ps.length) = ps) := by
  unfold cutV
  have e2 : HT.sIx (row.map V.int).length (row.map V.int).length none = (row.map V.int).length := rfl
  rw [e2, List.length_map]
  by_cases h : ps.length ≤ row.length
  · have e1 : HT.sIx row.length 0 (some ((row.length : Int) - (ps.length : Int))) = row.length - ps.length := by
      show (if (row.length : Int) - (ps.length : Int) < 0 then ((row.length : Int) - (ps.length : Int) + (row.length : Int)).toNat else min ((row.length : Int) - (ps.length : Int)).toNat row.length) = _
      rw [if_neg (by omega)]
      omega
    rw [e1, ← List.map_drop, List.take_of_length_le (by simp)]
    constructor
    · intro e
      exact ⟨h, (List.map_inj_right (fun _ _ z => V.int.inj z)).mp e⟩
    · rintro ⟨_, e⟩
      rw [e]
  · constructor
    · intro e
      exfalso
      have e3 := congrArg List.length e
      simp only [List.length_map, List.length_take, List.length_drop] at e3
      omega
    · rintro ⟨h2, _⟩
      exact absurd h2 h
theorem cut_open {row ps : List Int} (h : ps.length ≤ row.length) : cutV (row.map V.int) none (some ((row.length : Int) - (ps.length : Int))) = (row.take (row.length - ps.length)).map V.int := by
  unfold cutV
  have e2 : HT.sIx (row.map V.int).length 0 none = 0 := rfl
  have e1 : HT.sIx (row.map V.int).length (row.map V.int).length (some ((row.length : Int) - (ps.length : Int))) = row.length - ps.length := by
    show (if (row.length : Int) - (ps.length : Int) < 0 then ((row.length : Int) - (ps.length : Int) + ((row.map V.int).length : Int)).toNat else min ((row.length : Int) - (ps.length : Int)).toNat (row.map V.int).length) = _
    rw [List.length_map, if_neg (by omega)]
    omega
  rw [e1, e2, Nat.sub_zero, List.drop_zero, List.map_take]
theorem cut_ints {row : List Int} {lo hi : Option Int} : ∃ ns : List Int, cutV (row.map V.int) lo hi = ns.map V.int ∧ ns.length ≤ row.length := by
  refine ⟨((row.drop (HT.sIx (row.map V.int).length 0 lo)).take (HT.sIx (row.map V.int).length (row.map V.int).length hi - HT.sIx (row.map V.int).length 0 lo)), ?_, ?_⟩
  · unfold cutV
    rw [List.map_take, List.map_drop]
  · rw [List.length_take, List.length_drop]
    omega
theorem ord_len : ∀ (A : List Nd) (row r : List Int) (k : Nat), ord row k A = some r → r.length ≤ row.length + A.length
  | [], row, r, k, h => by
    have h : row = r := Option.some.inj h
    rw [h]
    exact Nat.le_refl _
  | n :: t, row, r, k, h => by
    have h : (ordStep row k n).bind (fun r => ord r (k + 1) t) = some r := h
    cases h1 : ordStep row k n with
    | none => rw [h1] at h; cases h
    | some r1 =>
      rw [h1] at h
      have h2 := ord_len t r1 r (k + 1) h
      unfold ordStep at h1
      split at h1
      · have h1 := Option.some.inj h1
        rw [← h1] at h2
        simp only [List.length_append, List.length_take, List.length_cons, List.length_nil] at h2 ⊢
        omega
      · cases h1
section
variable {P : Program} {w : World} {K : PySem.W.Frag} {mg : Str → Option Value} {base : Heap} {dL dN : Addr}
def spOrder (K : PySem.W.Frag) : Sp := fun vs H Q _ => ∃ (v : V) (N : List Nd), vs = [v] ∧ PlanAt K H v N ∧ N.length ≤ 45 ∧ ∀ (g : Bool) H', Same H H' → (g = true ↔ ∃ i, ord [] 0 N = some [i]) → Q (.bl g) H'
theorem scOrder : FnScope ["plan", "row", "index", "node", "parts", "first"] ["plan"] (defScope sOrder) := ⟨rfl, rfl, rfl, by decide +kernel, rfl, by decide +kernel, by decide +kernel⟩
theorem ok_order {f fP : Addr} {fd fdP : FuncData} (F : Fun K "are_in_order" "are_in_order" sOrder f fd) (M : NamesQ mg) (FP : Fun K "parts_of" "parts_of" sParts fP fdP) (mP : mg "parts_of" = some (.ref fP)) (bP : Binds K fdP ["node"] []) :
    FnOk P w K mg base CX0 2 f fd ["plan"] (spOrder K) := by
  have GP : FnOk P w K mg base CX0 1 fP fdP ["node"] (spParts K) := ok_parts FP
  have kP := FP.kp
  refine F.ok scOrder (fun vs H Q E h => ?_) (fun cdv A outer s H vs Q E hr h => ?_)
  · obtain ⟨v, N, rfl, _⟩ := h
    rfl
  · obtain ⟨v, N, rfl, ⟨a, vs, rfl, sq, nv⟩, l45, q⟩ := h
    have nd := scOrder.nd
    have zero : (0 : Nat) ≤ sizeLine := by decide
    have one : (1 : Nat) ≤ sizeLine := by decide
    refine ⟨_, (pss_cons (ps_set (i := 1) nd rfl (Or.inl rfl) (pe_lst pa_nil))
        (pss_cons (ps_for PassesOwn.never rfl (pi_enumT (by rfl) M.enum (pa_cons (pv 0) pa_nil)) (pg_tup (by rfl) (pgs_cons (pg_name (i := 2) nd rfl (Or.inl rfl)) (pgs_cons (pg_name (i := 3) nd rfl (Or.inl rfl)) pgs_nil))) (pss_cons (ps_set (i := 4) nd rfl (Or.inl rfl) (pe_call GP (hr.mono (by decide)) rfl mP kP bP .nil pass0 (pa_cons (pv 3) pa_nil)))
        (pss_cons (ps_set (i := 5) nd rfl (Or.inl rfl) (pe_op op_sub (pe_callB call_len_seq (by rfl) M.len PySem.boot_len (pa_cons (pv 1) pa_nil)) (pe_callB call_len_seq (by rfl) M.len PySem.boot_len (pa_cons (pv 4) pa_nil))))
        (pss_cons (ps_if (pt_cmpR (op_neD hr.units) (pe_callTy call_tuple_of (by rfl) M.tuple (by decide +kernel) (pa_cons (pe_slice sl_list (pv 1) (po_some (pv 5)) po_none) pa_nil)) (pv 4) (nomark _)) (pss_one (ps_ret pe_bl)) pss_nil)
        (pss_one (ps_set (i := 1) nd rfl (Or.inl rfl) (pe_op op_cat (pe_slice sl_list (pv 1) po_none (po_some (pv 5))) (pe_lst (pa_cons (pv 2) pa_nil)))))))))
        (pss_one (ps_ret (pe_cmpR op_eq (pe_callB call_len_seq (by rfl) M.len PySem.boot_len (pa_cons (pv 1) pa_nil)) pe_int (nomark _)))))), ?_⟩
    refine ⟨zero, fun p np => ?_⟩
    refine ⟨_, rfl, a, vs, rfl, (Tp.same (same_new np)).seq sq, ?_⟩
    refine for_it (walk_enumT (xs := vs)) (fun i σ H' => ∃ (l : Addr) (row : List Int) (v2 v3 v4 v5 : Option V), σ = [some (.ref a), some (.ref l), v2, v3, v4, v5] ∧ Same H H' ∧ H' l = some (.lst (row.map V.int)) ∧ ord [] 0 (N.take i) = some row)
      ⟨p, [], none, none, none, none, rfl, same_new np, upd_same, rfl⟩ (fun i σ H' _ h => ?_) ?_ ?_
    · obtain ⟨_, _, _, _, _, _, _, S, _⟩ := h
      exact (Tp.same S).seq sq
    · rintro i x σ H1 H2 hi ⟨l, row, v2, v3, v4, v5, rfl, S, hl, ho⟩ ⟨Ta, x1, u, rfl, nT, rfl, e1, hu⟩
      cases e1
      have iN : i < N.length := by rw [← nv.len]; exact hi
      obtain ⟨u', hu', nu⟩ := nv.at_ i N[i] (List.getElem?_eq_getElem iN)
      cases hu.symm.trans hu'
      have S1 := same_new (o := .tup [V.int (i : Nat), u]) nT
      have nu := nu.tp (Tp.same (S.trans S1))
      have hl := S1 _ _ hl
      have rl := ord_len _ _ _ _ ho
      rw [List.length_take] at rl
      have rl : row.length ≤ 45 := by simp at rl; omega
      have os := ord_snoc (List.getElem?_eq_getElem iN) ho
      generalize N[i] = n at nu os
      refine ⟨Ta, _, rfl, SqT.of upd_same, rfl, _, _, rfl, _, _, rfl, rfl, ?_⟩
      -- parts
      refine ⟨_, rfl, u, n, rfl, nu, fun t H3 S3 sT => ?_⟩
      have hl := S3 _ _ hl
      refine ⟨_, rfl, l, _, rfl, .inl (SqL.of hl), _, rfl, t, _, rfl, .inr sT, _, _, rfl, rfl, ?_⟩
      rw [List.length_map, List.length_map]
      -- the test
      refine ⟨_, rfl, _, rfl, _, rfl, l, _, rfl, SqL.of hl, fun p1 np1 => ?_⟩
      obtain ⟨ns, ens, _⟩ := cut_ints (row := row) (lo := some ((row.length : Int) - (n.parts.length : Int))) (hi := none)
      rw [ens]
      refine ⟨p1, _, rfl, .inl ⟨SqL.of upd_same, fun p2 np2 => ?_⟩⟩
      have S4 := (same_new (o := .lst (ns.map V.int)) np1).trans (same_new (o := .tup (ns.map V.int)) np2)
      have sT4 := (Tp.same S4).seq sT
      refine ⟨_, rfl, .tuple (ns.map PyData.int), .tuple (n.parts.map PyData.int), .tup (SqT.of upd_same) dp_ints, .tup sT4 dp_ints, shaped_tup ns, shaped_tup _, ?_⟩
      rw [eqv_tups]
      have key : ns = n.parts ↔ (n.parts.length ≤ row.length ∧ row.drop (row.length - n.parts.length) = n.parts) := by
        rw [← cut_end, ens]
        exact (List.map_inj_right (fun _ _ z => V.int.inj z)).symm
      refine ⟨_, rfl, ite2 (fun c => ?_) (fun c => ?_)⟩
      · have c : ¬ ns = n.parts := by simpa using c
        have e : ord [] 0 (N.take (i + 1)) = none := by
          rw [os]
          unfold ordStep
          rw [if_neg fun z => c (key.mpr z)]
        have e := ord_none e
        refine q false _ ((S.trans S1).trans (S3.trans S4)) ⟨fun z => Bool.noConfusion z, fun ⟨_, z⟩ => ?_⟩
        rw [e] at z
        cases z
      · have c : ns = n.parts := by simpa using c
        have c := key.mp c
        have hl := S4 _ _ hl
        refine ⟨_, rfl, _, rfl, _, rfl, l, _, rfl, SqL.of hl, fun p3 np3 => ?_⟩
        rw [cut_open c.1]
        refine ⟨_, rfl, one, fun p4 np4 => ?_⟩
        have S5 := same_new (o := .lst [V.int (i : Nat)]) np4
        refine ⟨p3, p4, _, _, rfl, rfl, S5 _ _ upd_same, upd_same, ?_, fun p5 np5 => ?_⟩
        · rw [List.length_map, List.length_take]
          exact Nat.le_of_lt (small_line (by simp only [List.length_singleton]; omega))
        · have S6 := same_new (o := .lst ((row.take (row.length - n.parts.length)).map V.int)) np3
          refine ⟨p5, row.take (row.length - n.parts.length) ++ [(i : Int)], _, _, _, _, rfl, same_upd (((S.trans S1).trans (S3.trans S4)).trans (S6.trans S5)) (((S.trans S1).trans (S3.trans S4)).free (S6.free (S5.free np5))), ?_, ?_⟩
          · rw [List.map_append]
            exact upd_same
          · rw [os]
            unfold ordStep
            rw [if_pos c]
    · rintro σ H1 ⟨l, row, v2, v3, v4, v5, rfl, S, hl, ho⟩
      rw [nv.len, List.take_length] at ho
      refine ⟨_, rfl, l, _, rfl, .inl (SqL.of hl), rfl, ?_⟩
      refine q _ H1 S ?_
      rw [List.length_map, ho]
      constructor
      · intro z
        have z := V.int.inj (of_decide_eq_true z)
        obtain ⟨i, e⟩ := List.length_eq_one_iff.mp (show row.length = 1 by omega)
        exact ⟨i, by rw [e]⟩
      · rintro ⟨i, e⟩
        rw [Option.some.inj e]
        rfl
end
end LB

set_option maxRecDepth 100000
set_option maxHeartbeats 8000000
namespace LB
open PySem PySem.Spec PyProof.Rows L2
theorem all_map_iff {α : Type} {l : List α} {f : α → Bool} : (l.map f).all id = true ↔ ∀ x ∈ l, f x = true := by
  rw [List.all_eq_true]
  exact ⟨fun h x hx => h _ (List.mem_map_of_mem hx), fun h y hy => by
    obtain ⟨x, hx, e⟩ := List.mem_map.mp hy
    rw [← e]
    exact h x hx⟩
/-- what a good plan's nodes say by themselves -/
theorem GoodN.nodes {N : List Nd} (g : GoodN N) (s : ∀ n ∈ N, Shp n) : ∀ n ∈ N, nodeB n = true := by
  obtain ⟨i, ho⟩ := g.one
  have ok := okN_of g.ok ho g.len
  intro n hn
  refine (nodeB_iff (s n hn)).mpr ⟨g.ok n hn, fun q hq => ?_⟩
  obtain ⟨j, hj, e⟩ := List.getElem_of_mem hn
  have h := ok.bk j n (by rw [List.getElem?_eq_getElem hj, e]) q hq
  have := g.len
  omega
theorem rows_end {N : List Nd} (h : 1 ≤ N.length) : ∃ R r, rowsOn [] N = R ++ [r] := by
  have hl := rowsOn_length [] N
  have ne : rowsOn [] N ≠ [] := fun e => by
    rw [e] at hl
    simp at hl
    omega
  rcases List.eq_nil_or_concat (rowsOn [] N) with e | ⟨R, r, e⟩
  · exact absurd e ne
  · exact ⟨R, r, by rw [e, List.concat_eq_append]⟩
theorem PlanAt.shp {K : PySem.W.Frag} {H : Hp} {v : V} {N : List Nd} (h : PlanAt K H v N) : ∀ n ∈ N, Shp n := by
  obtain ⟨a, vs, _, _, nv⟩ := h
  intro n hn
  obtain ⟨j, hj, e⟩ := List.getElem_of_mem hn
  obtain ⟨u, _, nu⟩ := nv.at_ j n (by rw [List.getElem?_eq_getElem hj, e])
  exact nu.shp
section
variable {P : Program} {w : World} {K : PySem.W.Frag} {mg : Str → Option Value} {base : Heap} {dL dN C' fI cc cda : Addr}
def spIsPlan (K : PySem.W.Frag) : Sp := fun vs H Q _ => ∃ (v : V) (N : List Nd), vs = [v] ∧ PlanAt K H v N ∧ N.length ≤ 45 ∧ ∀ (g : Bool) H', Same H H' → (g = true ↔ GoodN N) → Q (.bl g) H'
/-- the defs that is_plan calls, as they stand -/
structure Subs (K : PySem.W.Frag) (mg : Str → Option Value) (base : Heap) (P : Program) (w : World) : Prop where
  N : ∃ f fd, FnOk P w K mg base CX0 3 f fd ["node"] (spIsNode K) ∧ mg "is_node" = some (.ref f) ∧ PySem.W.keepIn K (.ref f) = true ∧ Binds K fd ["node"] []
  O : ∃ f fd, FnOk P w K mg base CX0 2 f fd ["plan"] (spOrder K) ∧ mg "are_in_order" = some (.ref f) ∧ PySem.W.keepIn K (.ref f) = true ∧ Binds K fd ["plan"] []
  D : ∃ f fd, FnOk P w K mg base CX0 2 f fd ["plan"] (spDepths K) ∧ mg "depths" = some (.ref f) ∧ PySem.W.keepIn K (.ref f) = true ∧ Binds K fd ["plan"] []
  R : ∃ f fd, FnOk P w K mg base CX0 2 f fd ["plan"] (spRuns K) ∧ mg "job_runs" = some (.ref f) ∧ PySem.W.keepIn K (.ref f) = true ∧ Binds K fd ["plan"] []
theorem scIsPlan : FnScope ["plan", "node"] ["plan"] (defScope sIsPlan) := ⟨rfl, rfl, rfl, by decide +kernel, rfl, by decide +kernel, by decide +kernel⟩
theorem ok_isplan {f : Addr} {fd : FuncData} (F : Fun K "is_plan" "is_plan" sIsPlan f fd) (M : NamesQ mg) (C : Cons mg) (T : Subs K mg base P w) : FnOk P w K mg base CX0 4 f fd ["plan"] (spIsPlan K) := by
  obtain ⟨_, _, GN, mN, kN, bN⟩ := T.N
  obtain ⟨_, _, GO, mO, kO, bO⟩ := T.O
  obtain ⟨_, _, GD, mD, kD, bD⟩ := T.D
  obtain ⟨_, _, GR, mR, kR, bR⟩ := T.R
  obtain ⟨nt, nm⟩ := C.nm
  obtain ⟨dt, dm⟩ := C.dm
  obtain ⟨rt, rm⟩ := C.rm
  refine F.ok scIsPlan (fun vs H Q E h => ?_) (fun cdv A outer s H vs Q E hr h => ?_)
  · obtain ⟨v, N, rfl, _⟩ := h
    rfl
  · obtain ⟨v, N, rfl, pa, l45, q⟩ := h
    have nd := scIsPlan.nd
    have shp := pa.shp
    obtain ⟨a, vs, rfl, sq, nv⟩ := pa
    refine ⟨_, (pss_cons (ps_if (PW.pt (pw_or (pt_not (pt_val (pe_callB call_isi (by rfl) M.isi PyProof.Rows.boot_isinstance (pa_cons (pv 0) (pa_cons (pe_bltn (v := .ty "tuple") (by rfl) M.tuple (by decide +kernel) rfl) pa_nil))))) (pw_or1 (pt_not (pt_chain op_le op_le pe_int (pe_callB call_len_seq (by rfl) M.len PySem.boot_len (pa_cons (pv 0) pa_nil)) (pe_glob (v := .int 40) rfl nm ⟨_, rfl⟩)))))) (pss_one (ps_ret pe_bl)) pss_nil)
        (pss_cons (ps_if (pt_not (pt_val (pe_callB (cr_all rfl) (by rfl) M.all (by decide +kernel) (pa_cons (pe_lc (own := [("node", 1)]) (g := (gName 1)) rfl nd (pi_tup (pv 0)) (blkOk_by (N := ["plan", "node"]) (sc := (defScope sIsPlan)) (by decide +kernel)) (fun _ _ _ _ _ => (pg_name (i := 1) nd rfl (Or.inl rfl))) (fun _ _ _ _ _ => pts_nil) (fun _ _ _ _ _ => (pe_call GN (hr.mono (by decide)) rfl mN kN bN .nil pass0 (pa_cons (pv 1) pa_nil)))) pa_nil)))) (pss_one (ps_ret pe_bl)) pss_nil)
        (pss_cons (ps_if (pt_not (pt_val (pe_call GO (hr.mono (by decide)) rfl mO kO bO .nil pass0 (pa_cons (pv 0) pa_nil)))) (pss_one (ps_ret pe_bl)) pss_nil)
        (pss_one (ps_ret (pe_and (pe_cmpR op_le (pe_ix ix_list (pe_call GD (hr.mono (by decide)) rfl mD kD bD .nil pass0 (pa_cons (pv 0) pa_nil)) (pe_un un_neg pe_int) (fun _ _ => rfl)) (pe_glob (v := .int 8) rfl dm ⟨_, rfl⟩) (nomark _)) (pe_one (pe_cmpR op_le (pe_call GR (hr.mono (by decide)) rfl mR kR bR .nil pass0 (pa_cons (pv 0) pa_nil)) (pe_glob (v := .int 60) rfl rm ⟨_, rfl⟩) (nomark _))))))))), ?_⟩
    refine ⟨_, rfl, .ref a, .ty "tuple", _, _, true, rfl, .ty _, tyx_tup sq, kit_ty (by decide +kernel), _, rfl, iteF ?_⟩
    have no : ∀ {H'}, Same H H' → ¬ GoodN N → Q (.bl false) H' := fun S h => q false _ S ⟨fun z => Bool.noConfusion z, fun g => absurd g h⟩
    refine ⟨_, rfl, a, _, rfl, .inr sq, _, _, rfl, rfl, _, rfl, ite2 (fun c1 => ?_) (fun c1 => ?_)⟩
    · have c1 := of_decide_eq_true c1
      rw [nv.len] at c1
      refine ⟨_, _, rfl, rfl, _, rfl, ite2 (fun c2 => ?_) (fun c2 => ?_)⟩
      · have c2 : ¬ ((vs.length : Int) ≤ 40) := by simpa using c2
        rw [nv.len] at c2
        exact no (Same.refl H) fun g => c2 (by have := g.len; omega)
      · have c2 : (vs.length : Int) ≤ 40 := by simpa using c2
        rw [nv.len] at c2
        -- all nodes
        refine ⟨_, rfl, a, rfl, ⟨_, sq⟩, fun D nD => ?_⟩
        refine lc_tup (xs := vs) (fun j H' => Same H H' ∧ H' D = some (.lst (((N.take j).map nodeB).map V.bl)))
          ⟨same_new nD, upd_same⟩ (fun j H' _ h => (Tp.same h.1).seq sq) ?_ ?_
        · rintro j x H3 hx ⟨S3, hD⟩
          have jN : j < N.length := by rw [← nv.len]; exact (List.getElem?_eq_some_iff.mp hx).1
          obtain ⟨u', hu', nu⟩ := nv.at_ j N[j] (List.getElem?_eq_getElem jN)
          cases hx.symm.trans hu'
          refine ⟨rfl, _, rfl, x, N[j], rfl, nu.tp (Tp.same S3), fun H4 S4 => ⟨_, S4 _ _ hD, ?_, same_upd (S3.trans S4) nD, ?_⟩⟩
          · rw [List.length_map, List.length_map, List.length_take]
            exact small_line (by omega)
          · rw [take_succ (List.getElem?_eq_getElem jN), List.map_append, List.map_append]
            exact upd_same
        rintro H3 ⟨S3, hD⟩
        rw [nv.len, List.take_length] at hD
        refine ⟨D, _, rfl, SqL.of hD, _, rfl, ite2 (fun c => ?_) (fun c => ?_)⟩
        · refine no S3 fun g => ?_
          rw [all_map_iff.mpr (g.nodes shp)] at c
          cases c
        · have c : (N.map nodeB).all id = true := by
            cases h : (N.map nodeB).all id with
            | true => rfl
            | false => exact absurd (by rw [h]; rfl) c
          have hn := all_map_iff.mp c
          have okn : ∀ n ∈ N, NdOk n := fun n hn' => ((nodeB_iff (shp n hn')).mp (hn n hn')).1
          have pa : PlanAt K H3 (.ref a) N := ⟨a, vs, rfl, (Tp.same S3).seq sq, nv.tp (Tp.same S3)⟩
          refine ⟨_, rfl, _, N, rfl, pa, l45, fun g H4 S4 hg => ⟨_, rfl, ite2 (fun c3 => ?_) (fun c3 => ?_)⟩⟩
          · have c3 : g = false := by simpa using c3
            refine no (S3.trans S4) fun z => ?_
            rw [hg.mpr z.one] at c3
            cases c3
          · have c3 : g = true := by simpa using c3
            obtain ⟨i, ho⟩ := hg.mp c3
            have l40 : N.length ≤ 40 := by omega
            have ok := okN_of okn ho l40
            obtain ⟨R, r, eR⟩ := rows_end (N := N) (by omega)
            have pa := pa.tp (Tp.same S4)
            refine ⟨_, rfl, _, N, rfl, pa, ok, fun pd H5 S5 hpd => ?_⟩
            rw [eR, List.map_append, List.map_append] at hpd
            refine ⟨_, rfl, pd, _, _, _, rfl, rfl, SqL.of hpd, atI_last _ _, _, _, rfl, rfl, _, rfl, ite2 (fun c4 => ?_) (fun c4 => ?_)⟩
            · have c4 := of_decide_eq_true c4
              have pa := pa.tp (Tp.same S5)
              refine ⟨_, rfl, _, N, R, r, rfl, pa, ok, eR, fun H6 S6 => ⟨_, _, rfl, rfl, ?_⟩⟩
              refine q _ H6 ((S3.trans S4).trans (S5.trans S6)) ⟨fun z => ?_, fun z => ?_⟩
              · have z := of_decide_eq_true z
                refine ⟨okn, ⟨i, ho⟩, l40, fun R' r' e => ?_⟩
                rw [eR] at e
                obtain ⟨_, e2⟩ := List.append_inj' e rfl
                have e3 : r = r' := (List.cons.inj e2).1
                rw [← e3]
                exact ⟨c4, z⟩
              · exact decide_eq_true (z.sizes R r eR).2
            · have c4 : ¬ r.deep ≤ 8 := fun y => c4 (decide_eq_true y)
              exact no ((S3.trans S4).trans S5) fun z => c4 (z.sizes R r eR).1
    · have c1 : ¬ 1 ≤ (vs.length : Int) := fun y => c1 (decide_eq_true y)
      rw [nv.len] at c1
      refine ⟨_, rfl, iteT (no (Same.refl H) fun g => ?_)⟩
      obtain ⟨i, ho⟩ := g.one
      have e : N = [] := List.length_eq_zero_iff.mp (by omega)
      rw [e] at ho
      cases ho
def spCheckP (K : PySem.W.Frag) (C : Addr) : Sp := fun vs H Q E => ∃ (v : V) (N : List Nd), vs = [v] ∧ PlanAt K H v N ∧ N.length ≤ 45 ∧ (GoodN N → ∀ H', Same H H' → Q .non H') ∧
  (¬ GoodN N → ∀ (H' : Hp) (d : Addr), Same H H' → H' d = none → E (.ref C) (some d) (upd H' d (.xd [(("name" : Str), .str "plan")])))
theorem scCheckP : FnScope ["plan"] ["plan"] (defScope sCheckP) := ⟨rfl, rfl, rfl, by decide +kernel, rfl, by decide +kernel, by decide +kernel⟩
theorem ok_checkp {f fP : Addr} {fd fdP : FuncData} (F : Fun K "check_plan" "check_plan" sCheckP f fd) (T : Oor K mg P "OutOfRange" C' fI cc cda) (GP : FnOk P w K mg base CX0 4 fP fdP ["plan"] (spIsPlan K)) (mP : mg "is_plan" = some (.ref fP)) (kP : PySem.W.keepIn K (.ref fP) = true) (bP : Binds K fdP ["plan"] []) :
    FnOk P w K mg base (L2.CX P w) 5 f fd ["plan"] (spCheckP K C') := by
  refine F.okX scCheckP (fun vs H Q E h => ?_) (fun cdv A outer s H vs Q E hr h => ?_)
  · obtain ⟨v, N, rfl, _⟩ := h
    rfl
  · obtain ⟨v, N, rfl, pa, l45, q1, q2⟩ := h
    have nd := scCheckP.nd
    refine ⟨_, (pss_one (ps_if (pt_not (pt_val (pe_call GP (hr.mono (by decide)) rfl mP kP bP .nil pass0 (pa_cons (pv 0) pa_nil)))) (pss_one (ps_raiseErr (W := fun cls d _ H' => E cls d H') rfl T hr (takes_of rfl rfl rfl rfl) (pa_cons pe_str pa_nil) rfl (by decide))) pss_nil)), ?_⟩
    refine ⟨_, rfl, v, N, rfl, pa, l45, fun g H1 S1 hg => ⟨_, rfl, ite2 (fun c => ?_) (fun c => ?_)⟩⟩
    · have c : g = false := by simpa using c
      refine ⟨"plan", rfl, by decide, fun d hd => q2 (fun z => ?_) H1 d S1 hd⟩
      rw [hg.mpr z] at c
      cases c
    · have c : g = true := by simpa using c
      exact q1 (hg.mp c) H1 S1
def spLRefused (K : PySem.W.Frag) : Sp := fun vs H Q _ => ∃ (v : V) (N : List Nd), vs = [v] ∧ PlanAt K H v N ∧ N.length ≤ 45 ∧ (GoodN N → ∀ H', Same H H' → Q .non H') ∧
  (¬ GoodN N → ∀ (a : Addr) (H' : Hp), Same H H' → H' a = some (.tup [.str "refused", .str "plan"]) → Q (.ref a) H')
theorem scLRefused : FnScope ["plan", "told", "e"] ["plan"] (defScope sLRefused) := ⟨rfl, rfl, rfl, by decide +kernel, rfl, by decide +kernel, by decide +kernel⟩
theorem ok_lrefused {f fK : Addr} {fd fdK : FuncData} (F : Fun K "_law_refused" "_law_refused" sLRefused f fd) (T : Oor K mg P "OutOfRange" C' fI cc cda) (exC : PySem.W.exmOne K (.ref C') (.ref C') = some true) (GK : FnOk P w K mg base (L2.CX P w) 5 fK fdK ["plan"] (spCheckP K C'))
    (mK : mg "check_plan" = some (.ref fK)) (kK : PySem.W.keepIn K (.ref fK) = true) (bK : Binds K fdK ["plan"] []) : FnOk P w K mg base CX0 6 f fd ["plan"] (spLRefused K) := by
  refine F.ok scLRefused (fun vs H Q E h => ?_) (fun cdv A outer s H vs Q E hr h => ?_)
  · obtain ⟨v, N, rfl, _⟩ := h
    rfl
  · obtain ⟨v, N, rfl, pa, l45, q1, q2⟩ := h
    have nd := scLRefused.nd
    refine ⟨_, pss_cons (ps_try_as (i := 2) (Wout := fun _ _ _ _ => False) rfl rfl nd rfl rfl ⟨rfl, by decide, Or.inl T.gC⟩ takes0
        (fun W pn xe tk _ => pss_one (ps_set (i := 1) nd rfl (Or.inl rfl) (pe_callSD (E := WE W) GK (hr.mono (by decide)) rfl mK kK bK .nil (fun σ => passAt tk σ) (pa_cons (pv 0) pa_nil))))
        (fun a oe cls d pn hz hf => pss_one (ps_ret (pe_tup (pa_cons pe_str (pa_cons (pe_errName T hz hf (pv 2)) pa_nil))))))
      (pss_one (ps_ret (pv 1))), ?_⟩
    have two : (2 : Nat) ≤ sizeLine := by decide
    refine ⟨_, rfl, v, N, rfl, pa, l45, fun g H1 S1 => ?_, fun bad H1 dd S1 hd => ?_⟩
    · exact ⟨_, rfl, q1 g _ S1⟩
    · refine ⟨true, exC, fun _ a _ => ?_, fun y => Bool.noConfusion y⟩
      refine ⟨_, rfl, rfl, rfl, dd, _, rfl, upd_same, two, fun t ht => ?_⟩
      have s1 : Same H (upd H1 dd (.xd [(("name" : Str), V.str "plan")])) := S1.trans (same_new hd)
      exact q2 bad t _ (s1.trans (same_new ht)) upd_same
end
end LB

set_option maxRecDepth 100000
set_option maxHeartbeats 8000000
namespace LB
open PySem PySem.Spec PyProof.Rows L2
theorem of_pool {n : Nd} (h : n.word = "pool") {K : PySem.W.Frag} {H : Hp} {v : V} (hv : NdAt K H v n) : ∃ a b m ps, n = .whole (.pool m) ps ∧ v = .ref a ∧ SqT K H a [.str "pool", .int m, .ref b] ∧ SqT K H b (ps.map V.int) := by
  match n, hv with
  | .job .., _ => exact absurd h (show ¬ (("job" : Str) = "pool") by decide)
  | .whole (.plain w) ps, _ => exact absurd h (pk_ne w).2.2.2.2
  | .whole (.pool m) ps, ⟨a, b, e, q, r⟩ => exact ⟨a, b, m, ps, rfl, e, q, r⟩
  | .whole (.timeout t) ps, _ => exact absurd h (show ¬ (("timeout" : Str) = "pool") by decide)
  | .whole .orelse ps, _ => exact absurd h (show ¬ (("orelse" : Str) = "pool") by decide)
  | .whole (.retry r d) ps, _ => exact absurd h (show ¬ (("retry" : Str) = "pool") by decide)
theorem of_timeout' {n : Nd} (h : n.word = "timeout") {K : PySem.W.Frag} {H : Hp} {v : V} (hv : NdAt K H v n) : ∃ a i t, n = .whole (.timeout t) [i] ∧ v = .ref a ∧ SqT K H a [.str "timeout", .int t, .int i] := by
  match n, hv with
  | .job .., _ => exact absurd h (show ¬ (("job" : Str) = "timeout") by decide)
  | .whole (.plain w) ps, _ => exact absurd h (pk_ne w).2.1
  | .whole (.pool n) ps, _ => exact absurd h (show ¬ (("pool" : Str) = "timeout") by decide)
  | .whole (.timeout t) ps, ⟨a, i, e0, e, q⟩ => exact ⟨a, i, t, by rw [e0], e, q⟩
  | .whole .orelse ps, _ => exact absurd h (show ¬ (("orelse" : Str) = "timeout") by decide)
  | .whole (.retry r d) ps, _ => exact absurd h (show ¬ (("retry" : Str) = "timeout") by decide)
theorem of_plain {n : Nd} (h1 : n.word ≠ "job") (h2 : n.word ≠ "timeout") (h3 : n.word ≠ "retry") (h4 : n.word ≠ "orelse") (h5 : n.word ≠ "pool") {K : PySem.W.Frag} {H : Hp} {v : V} (hv : NdAt K H v n) :
    ∃ a b w ps, n = .whole (.plain w) ps ∧ v = .ref a ∧ SqT K H a [.str w.word, .ref b] ∧ SqT K H b (ps.map V.int) := by
  match n, hv with
  | .job .., _ => exact absurd rfl h1
  | .whole (.plain w) ps, ⟨a, b, e, q, r⟩ => exact ⟨a, b, w, ps, rfl, e, q, r⟩
  | .whole (.pool n) ps, _ => exact absurd rfl h5
  | .whole (.timeout t) ps, _ => exact absurd rfl h2
  | .whole .orelse ps, _ => exact absurd rfl h4
  | .whole (.retry r d) ps, _ => exact absurd rfl h3
section
variable {P : Program} {w : World} {K : PySem.W.Frag} {mg : Str → Option Value} {base : Heap}
def spLBounds (K : PySem.W.Frag) : Sp := fun vs H Q _ => ∃ (v : V) (n : Nd), vs = [v] ∧ NdAt K H v n ∧ ∀ g : Bool, (g = true ↔ NdOk n) → Q (.bl g) H
theorem scLBounds : FnScope ["node", "fault"] ["node"] (defScope sLBounds) := ⟨rfl, rfl, rfl, by decide +kernel, rfl, by decide +kernel, by decide +kernel⟩
theorem ok_lbounds {f : Addr} {fd : FuncData} (F : Fun K "_law_bounds" "_law_bounds" sLBounds f fd) (M : NamesQ mg) : FnOk P w K mg base CX0 1 f fd ["node"] (spLBounds K) := by
  refine F.ok scLBounds (fun vs H Q E h => ?_) (fun cdv A outer s H vs Q E hr h => ?_)
  · obtain ⟨v, n, rfl, _⟩ := h
    rfl
  · obtain ⟨v, n, rfl, nv, q⟩ := h
    have nd := scLBounds.nd
    have no : ¬ NdOk n → Q (.bl false) H := fun h => q false ⟨fun z => Bool.noConfusion z, fun g => absurd g h⟩
    obtain ⟨a, xs, rfl, sq⟩ := nv.head
    refine ⟨_, (pss_cons (ps_if (pt_cmpR op_eq (pe_ix ix_tup (pv 0) pe_int (fun _ _ => rfl)) pe_str (nomark _)) (C8.pss_cut (ps_set (i := 1) nd rfl (Or.inl rfl) (pe_or (pe_cmpR op_isN (pe_ix ix_tup (pv 0) pe_int (fun _ _ => rfl)) pe_non (nomark _)) (pe_one (pe_chain op_le op_le pe_int (pe_ix ix_tup (pv 0) pe_int (fun _ _ => rfl)) pe_int))))
        (pss_one (ps_ret (pe_and (pe_chain op_le op_le pe_int (pe_ix ix_tup (pv 0) pe_int (fun _ _ => rfl)) pe_int) (pe_and (pe_chain op_le op_le pe_int (pe_ix ix_tup (pv 0) pe_int (fun _ _ => rfl)) pe_int) (pe_and (pe_chain op_le op_le pe_int (pe_ix ix_tup (pv 0) pe_int (fun _ _ => rfl)) pe_int) (pe_one (pv 1)))))))) pss_nil)
        (pss_cons (ps_if (pt_cmpR op_eq (pe_ix ix_tup (pv 0) pe_int (fun _ _ => rfl)) pe_str (nomark _)) (pss_one (ps_ret (pe_and (pe_chain op_le op_le pe_int (pe_ix ix_tup (pv 0) pe_int (fun _ _ => rfl)) pe_int) (pe_one (pe_chain op_le op_le pe_int (pe_callB call_len_seq (by rfl) M.len PySem.boot_len (pa_cons (pe_ix ix_tup (pv 0) pe_int (fun _ _ => rfl)) pa_nil)) pe_int))))) pss_nil)
        (pss_cons (ps_if (pt_cmpR op_eq (pe_ix ix_tup (pv 0) pe_int (fun _ _ => rfl)) pe_str (nomark _)) (pss_one (ps_ret (pe_chain op_le op_le pe_int (pe_ix ix_tup (pv 0) pe_int (fun _ _ => rfl)) pe_int))) pss_nil)
        (pss_cons (ps_if (pt_cmpR op_eq (pe_ix ix_tup (pv 0) pe_int (fun _ _ => rfl)) pe_str (nomark _)) (pss_one (ps_ret (pe_and (pe_chain op_le op_le pe_int (pe_ix ix_tup (pv 0) pe_int (fun _ _ => rfl)) pe_int) (pe_one (pe_chain op_le op_le pe_int (pe_ix ix_tup (pv 0) pe_int (fun _ _ => rfl)) pe_int))))) pss_nil)
        (pss_one (ps_ret (pe_or (pe_cmpR op_eq (pe_ix ix_tup (pv 0) pe_int (fun _ _ => rfl)) pe_str (nomark _)) (pe_one (pe_chain op_le op_le pe_int (pe_callB call_len_seq (by rfl) M.len PySem.boot_len (pa_cons (pe_ix ix_tup (pv 0) pe_int (fun _ _ => rfl)) pa_nil)) pe_int))))))))), ?_⟩
    refine ⟨_, rfl, a, _, _, _, rfl, rfl, sq, atI_head, rfl, _, rfl, ite_str (fun e => ?_) (fun n1 => ?_)⟩
    · obtain ⟨d, g, x, cl, fo, rfl⟩ := of_job e
      obtain ⟨a', e2, sj⟩ := nv
      cases e2
      have cv : ∀ {y : Int}, ¬ 0 ≤ y → ¬ decide (0 ≤ y) = true := fun h z => h (of_decide_eq_true z)
      refine ⟨fun σ H' => ∃ b : Bool, σ = [some (.ref a), some (.bl b)] ∧ H' = H ∧ (b = true ↔ ∀ y, fo = some y → 0 ≤ y ∧ y ≤ 999), ?_, ?_⟩
      · refine ⟨_, rfl, a, _, _, _, rfl, rfl, sj, rfl, rfl, ?_⟩
        cases fo with
        | none => exact ⟨_, rfl, iteT ⟨_, rfl, rfl, fun _ y e => (nomatch e), fun _ => rfl⟩⟩
        | some y =>
          refine ⟨_, rfl, iteF ⟨_, rfl, a, _, _, _, rfl, rfl, sj, rfl, _, _, rfl, rfl, _, rfl, ite2 (fun c1 => ?_) (fun c1 => ?_)⟩⟩
          · have c1 := of_decide_eq_true c1
            exact ⟨_, _, rfl, rfl, _, rfl, rfl, fun z y' e => by rw [← Option.some.inj e]; exact ⟨c1, of_decide_eq_true z⟩, fun z => decide_eq_true (z y rfl).2⟩
          · have c1 : ¬ 0 ≤ y := fun z => c1 (decide_eq_true z)
            exact ⟨_, rfl, rfl, fun z => Bool.noConfusion z, fun z => absurd (z y rfl).1 c1⟩
      rintro σ H1 ⟨b, rfl, rfl, hb⟩
      refine ⟨_, rfl, a, _, _, _, rfl, rfl, sj, rfl, _, _, rfl, rfl, _, rfl, ite2 (fun c1 => ?_) (fun c1 => ?_)⟩
      rotate_left
      · exact ⟨_, rfl, iteF (no fun g => c1 (decide_eq_true g.1.1))⟩
      have c1 := of_decide_eq_true c1
      refine ⟨_, _, rfl, rfl, _, rfl, ite2 (fun c2 => ?_) (fun c2 => ?_)⟩
      rotate_left
      · exact no fun g => c2 (decide_eq_true g.1.2)
      have c2 := of_decide_eq_true c2
      refine ⟨_, rfl, a, _, _, _, rfl, rfl, sj, rfl, _, _, rfl, rfl, _, rfl, ite2 (fun c3 => ?_) (fun c3 => ?_)⟩
      rotate_left
      · exact ⟨_, rfl, iteF (no fun g => c3 (decide_eq_true g.2.1.1))⟩
      have c3 := of_decide_eq_true c3
      refine ⟨_, _, rfl, rfl, _, rfl, ite2 (fun c4 => ?_) (fun c4 => ?_)⟩
      rotate_left
      · exact no fun g => c4 (decide_eq_true g.2.1.2)
      have c4 := of_decide_eq_true c4
      refine ⟨_, rfl, a, _, _, _, rfl, rfl, sj, rfl, _, _, rfl, rfl, _, rfl, ite2 (fun c5 => ?_) (fun c5 => ?_)⟩
      rotate_left
      · exact ⟨_, rfl, iteF (no fun g => c5 (decide_eq_true g.2.2.1.1))⟩
      have c5 := of_decide_eq_true c5
      refine ⟨_, _, rfl, rfl, _, rfl, ite2 (fun c6 => ?_) (fun c6 => ?_)⟩
      rotate_left
      · exact no fun g => c6 (decide_eq_true g.2.2.1.2)
      have c6 := of_decide_eq_true c6
      exact ⟨_, rfl, q b ⟨fun z => ⟨⟨c1, c2⟩, ⟨c3, c4⟩, ⟨c5, c6⟩, hb.mp z⟩, fun z => hb.mpr z.2.2.2⟩⟩
    refine ⟨_, rfl, a, _, _, _, rfl, rfl, sq, atI_head, rfl, _, rfl, ite_str (fun e => ?_) (fun n2 => ?_)⟩
    · obtain ⟨a', b, m, ps, rfl, e2, sj, sb⟩ := of_pool e nv
      cases e2
      refine ⟨_, rfl, a, _, _, _, rfl, rfl, sj, rfl, _, _, rfl, rfl, _, rfl, ite2 (fun c1 => ?_) (fun c1 => ?_)⟩
      rotate_left
      · exact ⟨_, rfl, iteF (no fun g => c1 (decide_eq_true g.2.2.1))⟩
      have c1 := of_decide_eq_true c1
      refine ⟨_, _, rfl, rfl, _, rfl, ite2 (fun c2 => ?_) (fun c2 => ?_)⟩
      rotate_left
      · exact no fun g => c2 (decide_eq_true g.2.2.2)
      have c2 := of_decide_eq_true c2
      refine ⟨_, rfl, a, _, _, _, rfl, rfl, sj, rfl, b, _, rfl, .inr sb, _, _, rfl, rfl, _, rfl, ?_⟩
      rw [List.length_map]
      refine ite2 (fun c3 => ?_) (fun c3 => ?_)
      rotate_left
      · exact no fun g => c3 (decide_eq_true (by have := g.1; omega))
      have c3 := of_decide_eq_true c3
      refine ⟨_, _, rfl, rfl, ?_⟩
      refine q _ ⟨fun z => ⟨by omega, by have := of_decide_eq_true z; omega, c1, c2⟩, fun z => decide_eq_true (by have := z.2.1; omega)⟩
    refine ⟨_, rfl, a, _, _, _, rfl, rfl, sq, atI_head, rfl, _, rfl, ite_str (fun e => ?_) (fun n3 => ?_)⟩
    · obtain ⟨a', i, t, rfl, e2, sj⟩ := of_timeout' e nv
      cases e2
      refine ⟨_, rfl, a, _, _, _, rfl, rfl, sj, rfl, _, _, rfl, rfl, _, rfl, ite2 (fun c1 => ?_) (fun c1 => ?_)⟩
      rotate_left
      · exact no fun g => c1 (decide_eq_true g.2.1)
      have c1 := of_decide_eq_true c1
      refine ⟨_, _, rfl, rfl, q _ ⟨fun z => ⟨rfl, c1, of_decide_eq_true z⟩, fun z => decide_eq_true z.2.2⟩⟩
    refine ⟨_, rfl, a, _, _, _, rfl, rfl, sq, atI_head, rfl, _, rfl, ite_str (fun e => ?_) (fun n4 => ?_)⟩
    · obtain ⟨a', i, r, d, rfl, e2, sj⟩ := of_retry e nv
      cases e2
      refine ⟨_, rfl, a, _, _, _, rfl, rfl, sj, rfl, _, _, rfl, rfl, _, rfl, ite2 (fun c1 => ?_) (fun c1 => ?_)⟩
      rotate_left
      · exact ⟨_, rfl, iteF (no fun g => c1 (decide_eq_true g.2.1))⟩
      have c1 := of_decide_eq_true c1
      refine ⟨_, _, rfl, rfl, _, rfl, ite2 (fun c2 => ?_) (fun c2 => ?_)⟩
      rotate_left
      · exact no fun g => c2 (decide_eq_true g.2.2.1)
      have c2 := of_decide_eq_true c2
      refine ⟨_, rfl, a, _, _, _, rfl, rfl, sj, rfl, _, _, rfl, rfl, _, rfl, ite2 (fun c3 => ?_) (fun c3 => ?_)⟩
      rotate_left
      · exact no fun g => c3 (decide_eq_true g.2.2.2.1)
      have c3 := of_decide_eq_true c3
      refine ⟨_, _, rfl, rfl, q _ ⟨fun z => ⟨rfl, c1, c2, c3, of_decide_eq_true z⟩, fun z => decide_eq_true z.2.2.2.2⟩⟩
    refine ⟨_, rfl, a, _, _, _, rfl, rfl, sq, atI_head, rfl, _, rfl, ite_str (fun e => ?_) (fun n5 => ?_)⟩
    · obtain ⟨a', i, j, ep, e2, sj⟩ := of_orelse e nv
      refine q true ⟨fun _ => ?_, fun _ => rfl⟩
      have s := nv.shp
      cases n with
      | job => exact absurd e (show ¬ (("job" : Str) = "orelse") by decide)
      | whole k ps =>
        cases k with
        | orelse => exact s
        | plain w => exact absurd e (pk_ne w).2.2.2.1
        | pool m => exact absurd e (show ¬ (("pool" : Str) = "orelse") by decide)
        | timeout t => exact absurd e (show ¬ (("timeout" : Str) = "orelse") by decide)
        | retry r d => exact absurd e (show ¬ (("retry" : Str) = "orelse") by decide)
    · obtain ⟨a', b, pw, ps, rfl, e2, sj, sb⟩ := of_plain n1 n3 n4 n5 n2 nv
      cases e2
      refine ⟨_, rfl, a, _, _, _, rfl, rfl, sj, rfl, b, _, rfl, .inr sb, _, _, rfl, rfl, _, rfl, ?_⟩
      rw [List.length_map]
      refine ite2 (fun c3 => ?_) (fun c3 => ?_)
      rotate_left
      · exact no fun g => c3 (decide_eq_true (by have := g.1; omega))
      have c3 := of_decide_eq_true c3
      refine ⟨_, _, rfl, rfl, ?_⟩
      exact q _ ⟨fun z => ⟨by omega, by have := of_decide_eq_true z; omega⟩, fun z => decide_eq_true (by have := z.2; omega)⟩
end
end LB

set_option maxRecDepth 100000
set_option maxHeartbeats 8000000
namespace LB
open PySem PySem.Spec PyProof.Rows L2
theorem atI_end' {α : Type} {us : List α} {n : Nat} {x : α} (hl : us.length = n + 1) (h : us[n]? = some x) : atI us (-1) = some x := by
  have e := take_succ h
  rw [List.take_of_length_le (by omega)] at e
  rw [e]
  exact atI_last _ _
section
variable {P : Program} {w : World} {K : PySem.W.Frag} {mg : Str → Option Value} {base : Heap}
def spLGood (K : PySem.W.Frag) : Sp := fun vs H Q _ => ∃ (v : V) (N : List Nd), vs = [v] ∧ PlanAt K H v N ∧ N.length ≤ 45 ∧ ∀ (g : Bool) H', Same H H' → (g = true ↔ GoodN N) → Q (.bl g) H'
theorem scLGood : FnScope ["plan", "tops", "k", "due", "sizes"] ["plan"] (defScope sLGood) := ⟨rfl, rfl, rfl, by decide +kernel, rfl, by decide +kernel, by decide +kernel⟩
theorem ok_lgood {f fP fB fS : Addr} {fd fdP fdB fdS : FuncData} (F : Fun K "_law_good" "_law_good" sLGood f fd) (M : NamesQ mg) (FP : Fun K "_law_parts" "_law_parts" sLParts fP fdP) (mP : mg "_law_parts" = some (.ref fP)) (bP : Binds K fdP ["node"] [])
    (FB : Fun K "_law_bounds" "_law_bounds" sLBounds fB fdB) (mB : mg "_law_bounds" = some (.ref fB)) (bB : Binds K fdB ["node"] []) (FS : Fun K "_law_sizes" "_law_sizes" sLSizes fS fdS) (mS : mg "_law_sizes" = some (.ref fS)) (bS : Binds K fdS ["plan"] []) :
    FnOk P w K mg base CX0 3 f fd ["plan"] (spLGood K) := by
  have GP : FnOk P w K mg base CX0 1 fP fdP ["node"] (spParts K) := ok_lparts FP
  have GB : FnOk P w K mg base CX0 1 fB fdB ["node"] (spLBounds K) := ok_lbounds FB M
  have GS : FnOk P w K mg base CX0 2 fS fdS ["plan"] (spSizes K) := ok_sizes FS M.toNamesP FP mP bP
  have kP := FP.kp
  have kB := FB.kp
  have kS := FS.kp
  refine F.ok scLGood (fun vs H Q E h => ?_) (fun cdv A outer s H vs Q E hr h => ?_)
  · obtain ⟨v, N, rfl, _⟩ := h
    rfl
  · obtain ⟨v, N, rfl, ⟨a, vs, rfl, sq, nv⟩, l45, q⟩ := h
    have nd := scLGood.nd
    have zero : (0 : Nat) ≤ sizeLine := by decide
    have one : (1 : Nat) ≤ sizeLine := by decide
    have no : ∀ {H'}, Same H H' → ¬ GoodN N → Q (.bl false) H' := fun S h => q false _ S ⟨fun z => Bool.noConfusion z, fun g => absurd g h⟩
    refine ⟨_, (pss_cons (ps_set (i := 1) nd rfl (Or.inl rfl) (pe_lst pa_nil))
        (pss_cons (ps_for PassesOwn.never rfl (pi_range1 (by rfl) M.range (pa_cons (pe_callB call_len_seq (by rfl) M.len PySem.boot_len (pa_cons (pv 0) pa_nil)) pa_nil)) (pg_name (i := 2) nd rfl (Or.inl rfl)) (pss_cons (ps_set (i := 3) nd rfl (Or.inl rfl) (pe_call GP (hr.mono (by decide)) rfl mP kP bP .nil pass0 (pa_cons (pe_ix ix_tup (pv 0) (pv 2) (fun _ _ => rfl)) pa_nil)))
        (pss_cons (ps_if (PW.pt (pw_or (pt_not (pt_val (pe_call GB (hr.mono (by decide)) rfl mB kB bB .nil pass0 (pa_cons (pe_ix ix_tup (pv 0) (pv 2) (fun _ _ => rfl)) pa_nil)))) (pw_or (pt_cmpR op_gt (pe_callB call_len_seq (by rfl) M.len PySem.boot_len (pa_cons (pv 3) pa_nil)) (pe_callB call_len_seq (by rfl) M.len PySem.boot_len (pa_cons (pv 1) pa_nil)) (nomark _)) (pw_or1 (pt_cmpR (op_neD hr.units) (pe_callTy call_tuple_of (by rfl) M.tuple (by decide +kernel) (pa_cons (pe_slice sl_list (pv 1) (po_some (pe_op op_sub (pe_callB call_len_seq (by rfl) M.len PySem.boot_len (pa_cons (pv 1) pa_nil)) (pe_callB call_len_seq (by rfl) M.len PySem.boot_len (pa_cons (pv 3) pa_nil)))) po_none) pa_nil)) (pv 3) (nomark _)))))) (pss_one (ps_ret pe_bl)) pss_nil)
        (pss_one (ps_set (i := 1) nd rfl (Or.inl rfl) (pe_op op_cat (pe_slice sl_list (pv 1) po_none (po_some (pe_op op_sub (pe_callB call_len_seq (by rfl) M.len PySem.boot_len (pa_cons (pv 1) pa_nil)) (pe_callB call_len_seq (by rfl) M.len PySem.boot_len (pa_cons (pv 3) pa_nil))))) (pe_lst (pa_cons (pv 2) pa_nil))))))))
        (pss_cons (ps_if (PW.pt (pw_or (pt_cmpR op_ne (pe_callB call_len_seq (by rfl) M.len PySem.boot_len (pa_cons (pv 1) pa_nil)) pe_int (nomark _)) (pw_or1 (pt_cmpR op_gt (pe_callB call_len_seq (by rfl) M.len PySem.boot_len (pa_cons (pv 0) pa_nil)) pe_int (nomark _))))) (pss_one (ps_ret pe_bl)) pss_nil)
        (pss_cons (ps_set (i := 4) nd rfl (Or.inl rfl) (pe_ix ix_list (pe_call GS (hr.mono (by decide)) rfl mS kS bS .nil pass0 (pa_cons (pv 0) pa_nil)) (pe_un un_neg pe_int) (fun _ _ => rfl)))
        (pss_one (ps_ret (pe_and (pe_cmpR op_le (pe_ix ix_tup (pv 4) pe_int (fun _ _ => rfl)) pe_int (nomark _)) (pe_one (pe_cmpR op_le (pe_ix ix_tup (pv 4) pe_int (fun _ _ => rfl)) pe_int (nomark _)))))))))), ?_⟩
    refine ⟨zero, fun p np => ?_⟩
    refine ⟨_, rfl, a, _, rfl, .inr ((Tp.same (same_new np)).seq sq), ?_⟩
    rw [nv.len]
    refine ⟨_, rfl, by omega, by omega, ?_⟩
    refine for_range (n := N.length) (fun i σ H' => ∃ (l : Addr) (row : List Int) (v2 v3 v4 : Option V), σ = [some (.ref a), some (.ref l), v2, v3, v4] ∧ Same H H' ∧ H' l = some (.lst (row.map V.int)) ∧ ord [] 0 (N.take i) = some row ∧ ∀ n ∈ N.take i, NdOk n)
      ⟨p, [], none, none, none, rfl, same_new np, upd_same, rfl, fun n hn => by simp at hn⟩ ?_ ?_
    · rintro i σ H1 iN ⟨l, row, v2, v3, v4, rfl, S, hl, ho, hok⟩
      obtain ⟨u, hu, nu⟩ := nv.at_ i N[i] (List.getElem?_eq_getElem iN)
      have nu := nu.tp (Tp.same S)
      have sq1 := (Tp.same S).seq sq
      have rl := ord_len _ _ _ _ ho
      rw [List.length_take] at rl
      have rl : row.length ≤ 45 := by simp at rl; omega
      have os := ord_snoc (List.getElem?_eq_getElem iN) ho
      have tk := take_succ (List.getElem?_eq_getElem iN)
      have hu1 : atI vs (0 + (i : Int)) = some u := by rw [Int.zero_add]; exact atI_nat hu
      have mem : N[i] ∈ N := List.getElem_mem iN
      generalize N[i] = n at nu os tk mem
      -- due
      refine ⟨_, rfl, _, rfl, a, _, _, _, rfl, rfl, sq1, hu1, u, n, rfl, nu, fun t H3 S3 sT => ?_⟩
      have hl := S3 _ _ hl
      have nu := nu.tp (Tp.same S3)
      have sq3 := (Tp.same S3).seq sq1
      refine ⟨_, rfl, _, rfl, a, _, _, _, rfl, rfl, sq3, hu1, u, n, rfl, nu, fun g hg => ⟨_, rfl, ite2 (fun c => ?_) (fun c => ?_)⟩⟩
      · have c : g = false := by simpa using c
        refine no (S.trans S3) fun z => ?_
        rw [hg.mpr (z.ok n mem)] at c
        cases c
      have c : g = true := by simpa using c
      have okn := hg.mp c
      have fail : ¬ (n.parts.length ≤ row.length ∧ row.drop (row.length - n.parts.length) = n.parts) → ¬ GoodN N := fun h z => by
        have e : ord [] 0 (N.take (i + 1)) = none := by
          rw [os]
          unfold ordStep
          rw [if_neg h]
        obtain ⟨j, ho⟩ := z.one
        rw [ord_none e] at ho
        cases ho
      refine ⟨_, rfl, t, _, rfl, .inr sT, _, rfl, l, _, rfl, .inl (SqL.of hl), _, _, rfl, rfl, _, rfl, ?_⟩
      rw [List.length_map, List.length_map]
      refine ite2 (fun c => ?_) (fun c => ?_)
      · have c := of_decide_eq_true c
        exact no (S.trans S3) (fail fun z => by have := z.1; omega)
      have c : ¬ ((n.parts.length : Int) > (row.length : Int)) := fun z => c (decide_eq_true z)
      -- the test
      refine ⟨_, rfl, _, rfl, l, _, rfl, .inl (SqL.of hl), _, rfl, t, _, rfl, .inr sT, _, _, rfl, rfl, ?_⟩
      rw [List.length_map, List.length_map]
      refine ⟨_, rfl, l, _, rfl, SqL.of hl, fun p1 np1 => ?_⟩
      obtain ⟨ns, ens, _⟩ := cut_ints (row := row) (lo := some ((row.length : Int) - (n.parts.length : Int))) (hi := none)
      rw [ens]
      refine ⟨p1, _, rfl, .inl ⟨SqL.of upd_same, fun p2 np2 => ?_⟩⟩
      have S4 := (same_new (o := .lst (ns.map V.int)) np1).trans (same_new (o := .tup (ns.map V.int)) np2)
      have sT4 := (Tp.same S4).seq sT
      refine ⟨_, rfl, .tuple (ns.map PyData.int), .tuple (n.parts.map PyData.int), .tup (SqT.of upd_same) dp_ints, .tup sT4 dp_ints, shaped_tup ns, shaped_tup _, ?_⟩
      rw [eqv_tups]
      have key : ns = n.parts ↔ (n.parts.length ≤ row.length ∧ row.drop (row.length - n.parts.length) = n.parts) := by
        rw [← cut_end, ens]
        exact (List.map_inj_right (fun _ _ z => V.int.inj z)).symm
      refine ⟨_, rfl, ite2 (fun c => ?_) (fun c => ?_)⟩
      · have c : ¬ ns = n.parts := by simpa using c
        exact no (S.trans (S3.trans S4)) (fail fun z => c (key.mpr z))
      · have c : ns = n.parts := by simpa using c
        have c := key.mp c
        have hl := S4 _ _ hl
        refine ⟨_, rfl, _, rfl, l, _, rfl, .inl (SqL.of hl), _, rfl, t, _, rfl, .inr sT4, _, _, rfl, rfl, ?_⟩
        rw [List.length_map, List.length_map]
        refine ⟨_, rfl, l, _, rfl, SqL.of hl, fun p3 np3 => ?_⟩
        rw [cut_open c.1]
        refine ⟨_, rfl, one, fun p4 np4 => ?_⟩
        have S5 := same_new (o := .lst [V.int (0 + (i : Int))]) np4
        refine ⟨p3, p4, _, _, rfl, rfl, S5 _ _ upd_same, upd_same, ?_, fun p5 np5 => ?_⟩
        · rw [List.length_map, List.length_take]
          exact Nat.le_of_lt (small_line (by simp only [List.length_singleton]; omega))
        · have S6 := same_new (o := .lst ((row.take (row.length - n.parts.length)).map V.int)) np3
          refine ⟨p5, row.take (row.length - n.parts.length) ++ [(i : Int)], _, _, _, rfl, same_upd ((S.trans (S3.trans S4)).trans (S6.trans S5)) ((S.trans (S3.trans S4)).free (S6.free (S5.free np5))), ?_, ?_, ?_⟩
          · rw [List.map_append]
            refine upd_same.trans ?_
            show some (HO.lst (_ ++ [V.int (0 + (i : Int))])) = some (HO.lst (_ ++ [V.int (i : Int)]))
            rw [Int.zero_add]
          · rw [os]
            unfold ordStep
            rw [if_pos c]
          · intro m hm
            rw [tk] at hm
            rcases List.mem_append.mp hm with z | z
            · exact hok m z
            · rw [List.mem_singleton.mp z]
              exact okn
    · rintro σ H1 ⟨l, row, v2, v3, v4, rfl, S, hl, ho, hok⟩
      rw [List.take_length] at ho hok
      refine ⟨_, rfl, l, _, rfl, .inl (SqL.of hl), rfl, _, rfl, ?_⟩
      rw [List.length_map]
      refine ite2 (fun c => ?_) (fun c => ?_)
      · refine no S fun z => ?_
        obtain ⟨i, e⟩ := z.one
        rw [ho] at e
        rw [Option.some.inj e] at c
        exact absurd c (by simp)
      have c : row.length = 1 := by
        have z : V.int (row.length : Nat) = V.int 1 := by simpa using c
        have := V.int.inj z
        omega
      obtain ⟨i, rfl⟩ := List.length_eq_one_iff.mp c
      have sq1 := (Tp.same S).seq sq
      refine ⟨_, rfl, a, _, rfl, .inr sq1, _, _, rfl, rfl, _, rfl, ?_⟩
      rw [nv.len]
      refine ite2 (fun c => ?_) (fun c => ?_)
      · have c := of_decide_eq_true c
        exact no S fun z => by have := z.len; omega
      have c : ¬ ((N.length : Int) > 40) := fun z => c (decide_eq_true z)
      have l40 : N.length ≤ 40 := by omega
      have ok := okN_of hok ho l40
      have l1 : 1 ≤ N.length := by
        cases N with
        | nil => cases ho
        | cons n t => simp
      obtain ⟨R, r, eR⟩ := rows_end l1
      have pa : PlanAt K H1 (.ref a) N := ⟨a, vs, rfl, sq1, nv.tp (Tp.same S)⟩
      refine ⟨_, rfl, _, N, rfl, pa, ok, fun ps us H2 S2 hps ra => ?_⟩
      rw [eR] at ra
      obtain ⟨al, hal, sal⟩ := ra.at_ R.length r (by rw [List.getElem?_append_right (Nat.le_refl _)]; simp)
      have atl : atI us (-1) = some (.ref al) := atI_end' (n := R.length) (by rw [ra.len]; simp) hal
      refine ⟨_, rfl, ps, _, _, _, rfl, rfl, SqL.of hps, atl, ?_⟩
      refine ⟨_, rfl, al, _, _, _, rfl, rfl, sal, rfl, _, _, rfl, rfl, _, rfl, ite2 (fun c4 => ?_) (fun c4 => ?_)⟩
      · have c4 := of_decide_eq_true c4
        refine ⟨_, rfl, al, _, _, _, rfl, rfl, sal, rfl, _, _, rfl, rfl, ?_⟩
        refine q _ H2 (S.trans S2) ⟨fun z => ?_, fun z => ?_⟩
        · have z := of_decide_eq_true z
          refine ⟨hok, ⟨i, ho⟩, l40, fun R' r' e => ?_⟩
          rw [eR] at e
          obtain ⟨_, e2⟩ := List.append_inj' e rfl
          have e3 : r = r' := (List.cons.inj e2).1
          rw [← e3]
          exact ⟨c4, z⟩
        · exact decide_eq_true (z.sizes R r eR).2
      · have c4 : ¬ r.deep ≤ 8 := fun y => c4 (decide_eq_true y)
        exact no (S.trans S2) fun z => c4 (z.sizes R r eR).1
end
end LB

set_option maxRecDepth 100000
set_option maxHeartbeats 8000000
namespace LB
open PySem PySem.Spec PyProof.Rows L2
/-! ### rows of nodes, changed -/
section
variable {K : PySem.W.Frag} {H H0 H' : Hp} {vs us : List V} {N M : List Nd} {v : V} {n : Nd} {b l p : Addr} {o : HO}
theorem NdsAt.of (h : vs.length = N.length) (h2 : ∀ i, i < N.length → ∃ v n, vs[i]? = some v ∧ N[i]? = some n ∧ NdAt K H v n) : NdsAt K H vs N := ⟨h, fun i n e => by
  obtain ⟨v, m, h3, h4, h5⟩ := h2 i (List.getElem?_eq_some_iff.mp e).1
  rw [e] at h4
  rw [Option.some.inj h4]
  exact ⟨v, h3, h5⟩⟩
theorem NdsAt.get (h : NdsAt K H vs N) {i : Nat} (hi : i < N.length) : ∃ v n, vs[i]? = some v ∧ N[i]? = some n ∧ NdAt K H v n := by
  obtain ⟨v, h1, h2⟩ := h.at_ i N[i] (List.getElem?_eq_getElem hi)
  exact ⟨v, _, h1, List.getElem?_eq_getElem hi, h2⟩
theorem NdsAt.app (h : NdsAt K H vs N) (g : NdsAt K H us M) : NdsAt K H (vs ++ us) (N ++ M) := by
  have hl := h.len
  have gl := g.len
  refine NdsAt.of (by simp [hl, gl]) fun i hi => ?_
  by_cases c : i < N.length
  · obtain ⟨v, n, h1, h2, h3⟩ := h.get c
    exact ⟨v, n, by rw [List.getElem?_append_left (by omega)]; exact h1, by rw [List.getElem?_append_left c]; exact h2, h3⟩
  · rw [List.length_append] at hi
    obtain ⟨v, n, h1, h2, h3⟩ := g.get (i := i - N.length) (by omega)
    exact ⟨v, n, by rw [List.getElem?_append_right (by omega), hl]; exact h1, by rw [List.getElem?_append_right (by omega)]; exact h2, h3⟩
theorem NdsAt.one (h : NdAt K H v n) : NdsAt K H [v] [n] := NdsAt.of rfl fun i hi => by
  have e : i = 0 := by simp at hi; exact hi
  rw [e]
  exact ⟨v, n, rfl, rfl, h⟩
theorem NdsAt.rep (h : NdAt K H v n) (k : Nat) : NdsAt K H (List.replicate k v) (List.replicate k n) := NdsAt.of (by simp) fun i hi => by
  rw [List.length_replicate] at hi
  exact ⟨v, n, by rw [List.getElem?_replicate, if_pos hi], by rw [List.getElem?_replicate, if_pos hi], h⟩
theorem NdsAt.take (h : NdsAt K H vs N) (k : Nat) : NdsAt K H (vs.take k) (N.take k) := by
  have hl := h.len
  refine NdsAt.of (by simp [hl]) fun i hi => ?_
  rw [List.length_take] at hi
  obtain ⟨v, n, h1, h2, h3⟩ := h.get (i := i) (by omega)
  exact ⟨v, n, by rw [List.getElem?_take_of_lt (by omega)]; exact h1, by rw [List.getElem?_take_of_lt (by omega)]; exact h2, h3⟩
theorem NdsAt.drop (h : NdsAt K H vs N) (k : Nat) : NdsAt K H (vs.drop k) (N.drop k) := by
  have hl := h.len
  refine NdsAt.of (by simp [hl]) fun i hi => ?_
  rw [List.length_drop] at hi
  obtain ⟨v, n, h1, h2, h3⟩ := h.get (i := k + i) (by omega)
  exact ⟨v, n, by rw [List.getElem?_drop]; exact h1, by rw [List.getElem?_drop]; exact h2, h3⟩
theorem NdsAt.erase (h : NdsAt K H vs N) (k : Nat) : NdsAt K H (vs.eraseIdx k) (N.eraseIdx k) := by
  rw [List.eraseIdx_eq_take_drop_succ, List.eraseIdx_eq_take_drop_succ]
  exact (h.take k).app (h.drop (k + 1))
theorem NdsAt.set (h : NdsAt K H vs N) {k : Nat} (hv : NdAt K H v n) : NdsAt K H (vs.set k v) (N.set k n) := by
  have hl := h.len
  refine NdsAt.of (by simp [hl]) fun i hi => ?_
  rw [List.length_set] at hi
  by_cases c : k = i
  · subst c
    exact ⟨v, n, by rw [List.getElem?_set_self (by omega)], by rw [List.getElem?_set_self hi], hv⟩
  · obtain ⟨u, m, h1, h2, h3⟩ := h.get hi
    exact ⟨u, m, by rw [List.getElem?_set_ne c]; exact h1, by rw [List.getElem?_set_ne c]; exact h2, h3⟩
/-- one list of nodes that grows, beside the box -/
structure Gl (K : PySem.W.Frag) (H0 H : Hp) (b l : Addr) (N : List Nd) : Prop where
  B0 : Box H0 b
  B : Box H b
  U : But b H0 H
  e : H0 l = none
  n : ∃ vs, H l = some (.lst vs) ∧ NdsAt K H vs N
theorem Gl.but (G : Gl K H0 H b l N) (B : Box H' b) (U : But b H H') : Gl K H0 H' b l N :=
  { B0 := G.B0, B := B, U := G.U.trans U, e := G.e, n := let ⟨vs, h, r⟩ := G.n; ⟨vs, U.k _ _ (G.B0.off G.e) h, r.tp (Tp.but G.B U)⟩ }
theorem Gl.new (G : Gl K H0 H b l N) (n : H p = none) : Gl K H0 (upd H p o) b l N := G.but (G.B.new n) ((But.refl b H).new n)
theorem Gl.put (G : Gl K H0 H b l N) {us : List V} {M : List Nd} (h : NdsAt K H us M) : Gl K H0 (upd H l (.lst us)) b l M := by
  obtain ⟨vs, hl, _⟩ := G.n
  obtain ⟨B, U⟩ := Box.put (o := .lst us) G.B0 G.B G.U G.e
  exact { B0 := G.B0, B := B, U := U, e := G.e, n := ⟨us, upd_same, h.tp (Tp.lst hl)⟩ }
theorem Gl.push (G : Gl K H0 H b l N) (h : H l = some (.lst vs)) (hv : NdAt K H v n) : Gl K H0 (upd H l (.lst (vs ++ [v]))) b l (N ++ [n]) := by
  obtain ⟨vs', h', r⟩ := G.n
  rw [h] at h'
  cases h'
  exact G.put (r.app (.one hv))
theorem NdAt.but (hv : NdAt K H v n) (B : Box H b) (U : But b H H') : NdAt K H' v n := hv.tp (Tp.but B U)
theorem NdAt.new (hv : NdAt K H v n) (e : H p = none) : NdAt K (upd H p o) v n := hv.tp (Tp.same (same_new e))
end
theorem made_tup {K : PySem.W.Frag} {H : Hp} {p : Addr} {xs : List V} (e : H p = none) : SqT K (upd H p (.tup xs)) p xs := SqT.of upd_same
/-- three numbers, one of them drawn -/
theorem pick3 {x y z r : Int} (h0 : 0 ≤ r) (h1 : r < 3) : ∃ d : Int, atI [V.int x, V.int y, V.int z] r = some (.int d) := by
  have c : r = 0 ∨ r = 1 ∨ r = 2 := by omega
  rcases c with rfl | rfl | rfl
  · exact ⟨_, rfl⟩
  · exact ⟨_, rfl⟩
  · exact ⟨_, rfl⟩
/-- what is made beside a node at a: nodes us, told by N -/
structure Ed (K : PySem.W.Frag) (H0 : Hp) (b a : Addr) (xs : List V) (H : Hp) (us : List V) (N : List Nd) : Prop where
  B : Box H b
  U : But b H0 H
  s : SqT K H a xs
  n : NdsAt K H us N
section
variable {K : PySem.W.Frag} {H0 H H' : Hp} {b a p : Addr} {xs us ys : List V} {N : List Nd} {n : Nd} {o : HO}
theorem Ed.but (E : Ed K H0 b a xs H us N) (B : Box H' b) (U : But b H H') : Ed K H0 b a xs H' us N := ⟨B, E.U.trans U, (Tp.but E.B U).seq E.s, E.n.tp (Tp.but E.B U)⟩
theorem Ed.new (E : Ed K H0 b a xs H us N) (e : H p = none) : Ed K H0 b a xs (upd H p o) us N := E.but (E.B.new e) ((But.refl b H).new e)
theorem Ed.push (E : Ed K H0 b a xs H us N) (e : H p = none) {d x c : Int} {g : Bool} {f : Option Int} (h : n = .job d g x c f) : Ed K H0 b a xs (upd H p (.tup [.str "job", .int d, .str (if g then "gives" else "throws"), .int x, .int c, optV f])) (us ++ [.ref p]) (N ++ [n]) := by
  have E' := E.new (o := .tup [.str "job", .int d, .str (if g then "gives" else "throws"), .int x, .int c, optV f]) e
  subst h
  exact ⟨E'.B, E'.U, E'.s, E'.n.app (.one ⟨p, rfl, SqT.of upd_same⟩)⟩
end
section
variable {P : Program} {w : World} {K : PySem.W.Frag} {mg : Str → Option Value} {base : Heap}
def spLNumber (K : PySem.W.Frag) : Sp := fun vs H Q _ => ∃ (b : Addr) (v : V) (d : Int) (g : Bool) (x c : Int) (f : Option Int), vs = [.ref b, v] ∧ Box H b ∧ NdAt K H v (.job d g x c f) ∧ ∀ (u : V) (n : Nd) (H' : Hp), Box H' b → But b H H' → NdAt K H' u n → Q u H'
theorem scLNumber : FnScope ["box", "node", "edge"] ["box", "node"] (defScope sLNumber) := ⟨rfl, rfl, rfl, by decide +kernel, rfl, by decide +kernel, by decide +kernel⟩
theorem ok_lnumber {f fD : Addr} {fd fdD : FuncData} (F : Fun K "_law_number" "_law_number" sLNumber f fd) (M : Names mg) (FD : Fun K "_law_draw" "_law_draw" sDraw fD fdD) (mD : mg "_law_draw" = some (.ref fD)) (bD : Binds K fdD ["box", "many"] []) :
    FnOk P w K mg base CX0 2 f fd ["box", "node"] (spLNumber K) := by
  have GD : FnOk P w K mg base CX0 1 fD fdD ["box", "many"] (spDraw K) := ok_draw FD M
  have kD := FD.kp
  refine F.ok scLNumber (fun vs H Q E h => ?_) (fun cdv A outer s H vs Q E hr h => ?_)
  · obtain ⟨b, v, _, _, _, _, _, rfl, _⟩ := h
    rfl
  · obtain ⟨b, v, d, g, x, c, fo, rfl, B, ⟨a, rfl, sq⟩, q⟩ := h
    have nd := scLNumber.nd
    have one : (1 : Nat) ≤ sizeLine := by decide
    have two : (2 : Nat) ≤ sizeLine := by decide
    have three : (3 : Nat) ≤ sizeLine := by decide
    have four : (4 : Nat) ≤ sizeLine := by decide
    refine ⟨_, (pss_cons (ps_set (i := 2) nd rfl (Or.inl rfl) (pe_lst (pa_cons (pe_op op_catA (pe_tup (pa_cons pe_str (pa_cons (pe_ix ix_list (pe_lst (pa_cons pe_int (pa_cons (pe_un un_neg pe_int) (pa_cons pe_int pa_nil)))) (pe_call GD (hr.mono (by decide)) rfl mD kD bD .nil pass0 (pa_cons (pv 0) (pa_cons pe_int pa_nil))) (fun _ _ => rfl)) pa_nil))) (pe_slice sl_tupA (pv 1) (po_some pe_int) po_none)) (pa_cons (pe_op op_catA (pe_op op_catA (pe_slice sl_tupA (pv 1) po_none (po_some pe_int)) (pe_tup (pa_cons (pe_ix ix_list (pe_lst (pa_cons pe_int (pa_cons (pe_un un_neg pe_int) (pa_cons pe_int pa_nil)))) (pe_call GD (hr.mono (by decide)) rfl mD kD bD .nil pass0 (pa_cons (pv 0) (pa_cons pe_int pa_nil))) (fun _ _ => rfl)) pa_nil))) (pe_slice sl_tupA (pv 1) (po_some pe_int) po_none)) (pa_cons (pe_op op_catA (pe_op op_catA (pe_slice sl_tupA (pv 1) po_none (po_some pe_int)) (pe_tup (pa_cons (pe_ix ix_list (pe_lst (pa_cons pe_int (pa_cons (pe_un un_neg pe_int) (pa_cons pe_int pa_nil)))) (pe_call GD (hr.mono (by decide)) rfl mD kD bD .nil pass0 (pa_cons (pv 0) (pa_cons pe_int pa_nil))) (fun _ _ => rfl)) pa_nil))) (pe_slice sl_tupA (pv 1) (po_some pe_int) po_none)) (pa_cons (pe_op op_catA (pe_slice sl_tupA (pv 1) po_none (po_some pe_int)) (pe_tup (pa_cons (pe_ix ix_list (pe_lst (pa_cons pe_int (pa_cons (pe_un un_neg pe_int) (pa_cons pe_int (pa_cons pe_non pa_nil))))) (pe_call GD (hr.mono (by decide)) rfl mD kD bD .nil pass0 (pa_cons (pv 0) (pa_cons pe_int pa_nil))) (fun _ _ => rfl)) pa_nil))) pa_nil))))))
        (pss_one (ps_ret (pe_ix ix_list (pv 2) (pe_call GD (hr.mono (by decide)) rfl mD kD bD .nil pass0 (pa_cons (pv 0) (pa_cons pe_int pa_nil))) (fun _ _ => rfl))))), ?_⟩
    have E0 : Ed K H b a _ H [] [] := ⟨B, But.refl b H, sq, .nil⟩
    -- the duration
    refine ⟨_, rfl, three, fun l1 n1 => ?_⟩
    have E1 := E0.new (o := .lst [V.int 1001, (fun i => V.int (-i)) 1, V.int 1000]) n1
    refine ⟨_, rfl, b, 3, rfl, E1.B, by decide, fun r H1 r0 r3 B1 U1 => ?_⟩
    have hl := E0.B.keepL n1 U1
    have E1 := E1.but B1 U1
    obtain ⟨d1, hd⟩ := pick3 (x := 1001) (y := -1) (z := 1000) r0 r3
    refine ⟨l1, _, _, _, rfl, rfl, SqL.of hl, hd, two, fun t1 m1 => ?_⟩
    have E1 := E1.new (o := .tup [V.str "job", V.int d1]) m1
    refine ⟨_, rfl, _, rfl, a, _, rfl, E1.s, fun z => absurd z (by show ¬ (HT.sIx 6 0 (some 2) = 0 ∧ HT.sIx 6 6 none = 6); decide), fun _ p1 np1 => ?_⟩
    refine ⟨t1, p1, [V.str "job", V.int d1], [V.str (if g then "gives" else "throws"), V.int x, V.int c, optV fo], rfl, rfl, SqT.of (same_new np1 _ _ upd_same), SqT.of upd_same, (by show 6 ≤ sizeLine; decide), fun e => (nomatch e), fun _ e => (nomatch e), fun _ _ s1 ns1 => ?_⟩
    have E1 := (E1.new np1).push (n := .job d1 g x c fo) ns1 rfl
    clear hl hd
    -- the value
    refine ⟨_, rfl, _, rfl, a, _, rfl, E1.s, fun z => absurd z (by show ¬ (HT.sIx 6 0 none = 0 ∧ HT.sIx 6 6 (some 3) = 6); decide), fun _ p2 np2 => ?_⟩
    have E1 := E1.new (o := .tup [V.str "job", V.int d, V.str (if g then "gives" else "throws")]) np2
    have q2 := made_tup (K := K) (xs := [V.str "job", V.int d, V.str (if g then "gives" else "throws")]) np2
    refine ⟨_, rfl, three, fun l1 n1 => ?_⟩
    have B3 := E1.B
    have E1 := E1.new (o := .lst [V.int 1000, (fun i => V.int (-i)) 1, V.int 999]) n1
    have q2 := (Tp.same (same_new (o := .lst [V.int 1000, (fun i => V.int (-i)) 1, V.int 999]) n1)).seq q2
    refine ⟨_, rfl, b, 3, rfl, E1.B, by decide, fun r H1 r0 r3 B1 U1 => ?_⟩
    have q2 := (Tp.but E1.B U1).seq q2
    have hl := B3.keepL n1 U1
    have E1 := E1.but B1 U1
    obtain ⟨x1, hd⟩ := pick3 (x := 1000) (y := -1) (z := 999) r0 r3
    refine ⟨l1, _, _, _, rfl, rfl, SqL.of hl, hd, one, fun t1 m1 => ?_⟩
    have E1 := E1.new (o := .tup [V.int x1]) m1
    refine ⟨p2, t1, [V.str "job", V.int d, V.str (if g then "gives" else "throws")], [V.int x1], rfl, rfl, (Tp.same (same_new m1)).seq q2, SqT.of upd_same, (by show 4 ≤ sizeLine; decide), fun e => (nomatch e), fun _ e => (nomatch e), fun _ _ p3 np3 => ?_⟩
    have E1 := E1.new (o := .tup [V.str "job", V.int d, V.str (if g then "gives" else "throws"), V.int x1]) np3
    refine ⟨_, rfl, _, rfl, a, _, rfl, E1.s, fun z => absurd z (by show ¬ (HT.sIx 6 0 (some 4) = 0 ∧ HT.sIx 6 6 none = 6); decide), fun _ p4 np4 => ?_⟩
    refine ⟨p3, p4, [V.str "job", V.int d, V.str (if g then "gives" else "throws"), V.int x1], [V.int c, optV fo], rfl, rfl, SqT.of (same_new np4 _ _ upd_same), SqT.of upd_same, (by show 6 ≤ sizeLine; decide), fun e => (nomatch e), fun _ e => (nomatch e), fun _ _ s2 ns2 => ?_⟩
    have E1 := (E1.new np4).push (n := .job d g x1 c fo) ns2 rfl
    clear hl hd q2 B3
    -- the cleanup
    refine ⟨_, rfl, _, rfl, a, _, rfl, E1.s, fun z => absurd z (by show ¬ (HT.sIx 6 0 none = 0 ∧ HT.sIx 6 6 (some 4) = 6); decide), fun _ p2 np2 => ?_⟩
    have E1 := E1.new (o := .tup [V.str "job", V.int d, V.str (if g then "gives" else "throws"), V.int x]) np2
    have q2 := made_tup (K := K) (xs := [V.str "job", V.int d, V.str (if g then "gives" else "throws"), V.int x]) np2
    refine ⟨_, rfl, three, fun l1 n1 => ?_⟩
    have B3 := E1.B
    have E1 := E1.new (o := .lst [V.int 101, (fun i => V.int (-i)) 1, V.int 100]) n1
    have q2 := (Tp.same (same_new (o := .lst [V.int 101, (fun i => V.int (-i)) 1, V.int 100]) n1)).seq q2
    refine ⟨_, rfl, b, 3, rfl, E1.B, by decide, fun r H1 r0 r3 B1 U1 => ?_⟩
    have q2 := (Tp.but E1.B U1).seq q2
    have hl := B3.keepL n1 U1
    have E1 := E1.but B1 U1
    obtain ⟨c1, hd⟩ := pick3 (x := 101) (y := -1) (z := 100) r0 r3
    refine ⟨l1, _, _, _, rfl, rfl, SqL.of hl, hd, one, fun t1 m1 => ?_⟩
    have E1 := E1.new (o := .tup [V.int c1]) m1
    refine ⟨p2, t1, [V.str "job", V.int d, V.str (if g then "gives" else "throws"), V.int x], [V.int c1], rfl, rfl, (Tp.same (same_new m1)).seq q2, SqT.of upd_same, (by show 5 ≤ sizeLine; decide), fun e => (nomatch e), fun _ e => (nomatch e), fun _ _ p3 np3 => ?_⟩
    have E1 := E1.new (o := .tup [V.str "job", V.int d, V.str (if g then "gives" else "throws"), V.int x, V.int c1]) np3
    refine ⟨_, rfl, _, rfl, a, _, rfl, E1.s, fun z => absurd z (by show ¬ (HT.sIx 6 0 (some 5) = 0 ∧ HT.sIx 6 6 none = 6); decide), fun _ p4 np4 => ?_⟩
    refine ⟨p3, p4, [V.str "job", V.int d, V.str (if g then "gives" else "throws"), V.int x, V.int c1], [optV fo], rfl, rfl, SqT.of (same_new np4 _ _ upd_same), SqT.of upd_same, (by show 6 ≤ sizeLine; decide), fun e => (nomatch e), fun _ e => (nomatch e), fun _ _ s3 ns3 => ?_⟩
    have E1 := (E1.new np4).push (n := .job d g x c1 fo) ns3 rfl
    clear hl hd q2 B3
    -- the fault
    refine ⟨_, rfl, _, rfl, a, _, rfl, E1.s, fun z => absurd z (by show ¬ (HT.sIx 6 0 none = 0 ∧ HT.sIx 6 6 (some 5) = 6); decide), fun _ p2 np2 => ?_⟩
    have E1 := E1.new (o := .tup [V.str "job", V.int d, V.str (if g then "gives" else "throws"), V.int x, V.int c]) np2
    have q2 := made_tup (K := K) (xs := [V.str "job", V.int d, V.str (if g then "gives" else "throws"), V.int x, V.int c]) np2
    refine ⟨_, rfl, four, fun l1 n1 => ?_⟩
    have B3 := E1.B
    have E1 := E1.new (o := .lst [V.int 1000, (fun i => V.int (-i)) 1, V.int 999, .non]) n1
    have q2 := (Tp.same (same_new (o := .lst [V.int 1000, (fun i => V.int (-i)) 1, V.int 999, .non]) n1)).seq q2
    refine ⟨_, rfl, b, 4, rfl, E1.B, by decide, fun r H1 r0 r3 B1 U1 => ?_⟩
    have q2 := (Tp.but E1.B U1).seq q2
    have hl := B3.keepL n1 U1
    have E1 := E1.but B1 U1
    obtain ⟨f1, hd⟩ : ∃ f : Option Int, atI [V.int 1000, V.int (-1), V.int 999, .non] r = some (optV f) := by
      have c : r = 0 ∨ r = 1 ∨ r = 2 ∨ r = 3 := by omega
      rcases c with rfl | rfl | rfl | rfl
      · exact ⟨some 1000, rfl⟩
      · exact ⟨some (-1), rfl⟩
      · exact ⟨some 999, rfl⟩
      · exact ⟨none, rfl⟩
    refine ⟨l1, _, _, _, rfl, rfl, SqL.of hl, hd, one, fun t1 m1 => ?_⟩
    have E1 := E1.new (o := .tup [optV f1]) m1
    refine ⟨p2, t1, [V.str "job", V.int d, V.str (if g then "gives" else "throws"), V.int x, V.int c], [optV f1], rfl, rfl, (Tp.same (same_new m1)).seq q2, SqT.of upd_same, (by show 6 ≤ sizeLine; decide), fun e => (nomatch e), fun _ e => (nomatch e), fun _ _ s4 ns4 => ?_⟩
    have E1 := E1.push (n := .job d g x c f1) ns4 rfl
    clear hl hd q2 B3
    -- the list of the four
    refine ⟨four, fun le ne => ?_⟩
    have B3 := E1.B
    have E1 := E1.new (o := .lst [V.ref s1, .ref s2, .ref s3, .ref s4]) ne
    refine ⟨_, rfl, _, rfl, b, 4, rfl, E1.B, by decide, fun r H9 r0 r4 B1 U1 => ?_⟩
    have hl := B3.keepL ne U1
    have E1 := E1.but B1 U1
    obtain ⟨j, rfl⟩ : ∃ j : Nat, r = (j : Int) := ⟨r.toNat, by omega⟩
    obtain ⟨u, n, hu, _, nu⟩ := E1.n.get (i := j) (by show j < 4; omega)
    exact ⟨le, _, _, u, rfl, rfl, SqL.of hl, atI_nat hu, q u n _ E1.B E1.U nu⟩
end
end LB

set_option maxRecDepth 100000
set_option maxHeartbeats 8000000
namespace LB
open PySem PySem.Spec PyProof.Rows L2
section
variable {K : PySem.W.Frag} {H0 H H' : Hp} {b a p l lt : Addr} {xs us ys vs : List V} {N : List Nd} {T : List Int} {n nj : Nd} {v u vj : V} {o : HO}
theorem Ed.add (E : Ed K H0 b a xs H us N) (h : NdAt K H u n) : Ed K H0 b a xs H (us ++ [u]) (N ++ [n]) := ⟨E.B, E.U, E.s, E.n.app (.one h)⟩
/-- nodes at l, whole numbers at lt, a node vj */ -/
structure Gk (K : PySem.W.Frag) (H0 H : Hp) (b l lt : Addr) (N : List Nd) (T : List Int) (vj : V) (nj : Nd) : Prop where
  B0 : Box H0 b
  B : Box H b
  U : But b H0 H
  e : H0 l = none
  et : H0 lt = none
  ne : l ≠ lt
  n : ∃ vs, H l = some (.lst vs) ∧ NdsAt K H vs N
  t : H lt = some (.lst (T.map V.int))
  j : NdAt K H vj nj
theorem Gk.but (G : Gk K H0 H b l lt N T vj nj) (B : Box H' b) (U : But b H H') : Gk K H0 H' b l lt N T vj nj :=
  { B0 := G.B0, B := B, U := G.U.trans U, e := G.e, et := G.et, ne := G.ne, n := let ⟨vs, h, r⟩ := G.n; ⟨vs, U.k _ _ (G.B0.off G.e) h, r.tp (Tp.but G.B U)⟩, t := U.k _ _ (G.B0.off G.et) G.t, j := G.j.but G.B U }
theorem Gk.new (G : Gk K H0 H b l lt N T vj nj) (n : H p = none) : Gk K H0 (upd H p o) b l lt N T vj nj := G.but (G.B.new n) ((But.refl b H).new n)
theorem Gk.push (G : Gk K H0 H b l lt N T vj nj) (h : H l = some (.lst vs)) (hv : NdAt K H v n) : Gk K H0 (upd H l (.lst (vs ++ [v]))) b l lt (N ++ [n]) T vj nj := by
  obtain ⟨vs', h', r⟩ := G.n
  rw [h] at h'
  cases h'
  obtain ⟨B, U⟩ := Box.put (o := .lst (vs ++ [v])) G.B0 G.B G.U G.e
  have tp := Tp.lst (o := .lst (vs ++ [v])) h
  exact { B0 := G.B0, B := B, U := U, e := G.e, et := G.et, ne := G.ne, n := ⟨_, upd_same, (r.app (.one hv)).tp tp⟩, t := (by rw [upd_ne (Ne.symm G.ne)]; exact G.t), j := G.j.tp tp }
theorem Gk.pushT (G : Gk K H0 H b l lt N T vj nj) {x : Int} : Gk K H0 (upd H lt (.lst (T.map V.int ++ [V.int x]))) b l lt N (T ++ [x]) vj nj := by
  obtain ⟨vs, h, r⟩ := G.n
  obtain ⟨B, U⟩ := Box.put (o := .lst (T.map V.int ++ [V.int x])) G.B0 G.B G.U G.et
  have tp := Tp.lst (o := .lst (T.map V.int ++ [V.int x])) G.t
  exact { B0 := G.B0, B := B, U := U, e := G.e, et := G.et, ne := G.ne, n := ⟨vs, by rw [upd_ne G.ne]; exact h, r.tp tp⟩, t := upd_same.trans (congrArg some lst_more), j := G.j.tp tp }
end
def rgI (a b : Int) : List Int := (List.range (b - a).toNat).map fun i => a + (i : Nat)
theorem rgV_I (a b : Int) : rgV a b = (rgI a b).map V.int := by
  unfold rgV rgI
  rw [List.map_map]
  rfl
theorem flat_rep {α : Type} (k : Nat) (x : α) : (List.replicate k [x]).flatten = List.replicate k x := by
  induction k with
  | zero => rfl
  | succ k ih =>
    rw [List.replicate_succ, List.replicate_succ, List.flatten_cons, ih]
    rfl
section
variable {P : Program} {w : World} {K : PySem.W.Frag} {mg : Str → Option Value} {base : Heap}
def spLLong (K : PySem.W.Frag) : Sp := fun vs H Q _ => ∃ (b : Addr), vs = [.ref b] ∧ Box H b ∧ ∀ (v : V) (N : List Nd) (H' : Hp), N.length ≤ 45 → Box H' b → But b H H' → PlanAt K H' v N → Q v H'
theorem scLLong : FnScope ["box", "kind", "job", "nodes", "k", "many", "tops", "turn", "step"] ["box"] (defScope sLLong) := ⟨rfl, rfl, rfl, by decide +kernel, rfl, by decide +kernel, by decide +kernel⟩
theorem ok_llong {f fD : Addr} {fd fdD : FuncData} (F : Fun K "_law_long" "_law_long" sLLong f fd) (M : NamesQ mg) (FD : Fun K "_law_draw" "_law_draw" sDraw fD fdD) (mD : mg "_law_draw" = some (.ref fD)) (bD : Binds K fdD ["box", "many"] []) :
    FnOk P w K mg base CX0 2 f fd ["box"] (spLLong K) := by
  have GD : FnOk P w K mg base CX0 1 fD fdD ["box", "many"] (spDraw K) := ok_draw FD M.toNames
  have kD := FD.kp
  refine F.ok scLLong (fun vs H Q E h => ?_) (fun cdv A outer s H vs Q E hr h => ?_)
  · obtain ⟨b, rfl, _⟩ := h
    rfl
  · obtain ⟨b, rfl, B, q⟩ := h
    have nd := scLLong.nd
    have zero : (0 : Nat) ≤ sizeLine := by decide
    have one : (1 : Nat) ≤ sizeLine := by decide
    have two : (2 : Nat) ≤ sizeLine := by decide
    have three : (3 : Nat) ≤ sizeLine := by decide
    have four : (4 : Nat) ≤ sizeLine := by decide
    have six : (6 : Nat) ≤ sizeLine := by decide
    have eight : (8 : Nat) ≤ sizeLine := by decide
    refine ⟨_, (pss_cons (ps_set (i := 1) nd rfl (Or.inl rfl) (pe_call GD (hr.mono (by decide)) rfl mD kD bD .nil pass0 (pa_cons (pv 0) (pa_cons pe_int pa_nil))))
        (pss_cons (ps_set (i := 2) nd rfl (Or.inl rfl) (pe_tup (pa_cons pe_str (pa_cons pe_int (pa_cons pe_str (pa_cons pe_int (pa_cons pe_int (pa_cons pe_non pa_nil))))))))
        (pss_cons (ps_if (pt_cmpR op_eq (pv 1) pe_int (nomark _)) (pss_cons (ps_set (i := 3) nd rfl (Or.inl rfl) (pe_lst (pa_cons (pv 2) pa_nil)))
        (pss_cons (ps_for PassesOwn.never rfl (pi_range1 (by rfl) M.range (pa_cons (pe_op op_add pe_int (pe_call GD (hr.mono (by decide)) rfl mD kD bD .nil pass0 (pa_cons (pv 0) (pa_cons pe_int pa_nil)))) pa_nil)) (pg_name (i := 4) nd rfl (Or.inl rfl)) (pss_one (ps_expr (pe_bm PySem.F.plainAttrs_list PySem.F.slot_list_append PySem.F.type_list_append mt_append (pv 3) (pa_cons (pe_tup (pa_cons pe_str (pa_cons (pe_tup (pa_cons (pv 4) pa_nil)) pa_nil))) pa_nil)))))
        (pss_one (ps_ret (pe_callTy call_tuple_of (by rfl) M.tuple (by decide +kernel) (pa_cons (pv 3) pa_nil)))))) pss_nil)
        (pss_cons (ps_if (pt_cmpR op_eq (pv 1) pe_int (nomark _)) (pss_cons (ps_set (i := 5) nd rfl (Or.inl rfl) (pe_op op_add pe_int (pe_call GD (hr.mono (by decide)) rfl mD kD bD .nil pass0 (pa_cons (pv 0) (pa_cons pe_int pa_nil)))))
        (pss_one (ps_ret (pe_op op_catA (pe_op op_repT (pe_tup (pa_cons (pv 2) pa_nil)) (pv 5)) (pe_tup (pa_cons (pe_tup (pa_cons pe_str (pa_cons (pe_tupRg rfl (by rfl) M.tuple (prg_1 (by rfl) M.range (pv 5))) pa_nil))) (pa_cons (pe_tup (pa_cons pe_str (pa_cons (pe_ix ix_list (pe_lst (pa_cons pe_int (pa_cons pe_int (pa_cons pe_int pa_nil)))) (pe_call GD (hr.mono (by decide)) rfl mD kD bD .nil pass0 (pa_cons (pv 0) (pa_cons pe_int pa_nil))) (fun _ _ => rfl)) (pa_cons pe_int (pa_cons (pv 5) pa_nil))))) (pa_cons (pe_tup (pa_cons pe_str (pa_cons pe_int (pa_cons pe_int (pa_cons (pe_op op_add (pv 5) pe_int) pa_nil))))) pa_nil)))))))) pss_nil)
        (pss_cons (ps_if (pt_cmpR op_eq (pv 1) pe_int (nomark _)) (pss_cons (ps_set (i := 5) nd rfl (Or.inl rfl) (pe_op op_add pe_int (pe_call GD (hr.mono (by decide)) rfl mD kD bD .nil pass0 (pa_cons (pv 0) (pa_cons pe_int pa_nil)))))
        (pss_one (ps_ret (pe_op op_catA (pe_op op_repT (pe_tup (pa_cons (pv 2) pa_nil)) (pv 5)) (pe_tup (pa_cons (pe_ix ix_list (pe_lst (pa_cons (pe_tup (pa_cons pe_str (pa_cons (pe_tupRg rfl (by rfl) M.tuple (prg_1 (by rfl) M.range (pv 5))) pa_nil))) (pa_cons (pe_tup (pa_cons pe_str (pa_cons pe_int (pa_cons (pe_tupRg rfl (by rfl) M.tuple (prg_1 (by rfl) M.range (pv 5))) pa_nil)))) pa_nil))) (pe_call GD (hr.mono (by decide)) rfl mD kD bD .nil pass0 (pa_cons (pv 0) (pa_cons pe_int pa_nil))) (fun _ _ => rfl)) pa_nil)))))) pss_nil)
        (pss_cons (ps_if (pt_cmpR op_eq (pv 1) pe_int (nomark _)) (pss_cons (ps_set (i := 3) nd rfl (Or.inl rfl) (pe_lst pa_nil))
        (pss_cons (ps_set (i := 6) nd rfl (Or.inl rfl) (pe_lst pa_nil))
        (pss_cons (ps_for PassesOwn.never rfl (pi_range1 (by rfl) M.range (pa_cons pe_int pa_nil)) (pg_name (i := 7) nd rfl (Or.inl rfl)) (pss_cons (ps_for PassesOwn.never rfl (pi_range1 (by rfl) M.range (pa_cons pe_int pa_nil)) (pg_name (i := 8) nd rfl (Or.inl rfl)) (pss_one (ps_expr (pe_bm PySem.F.plainAttrs_list PySem.F.slot_list_append PySem.F.type_list_append mt_append (pv 3) (pa_cons (pv 2) pa_nil)))))
        (pss_cons (ps_expr (pe_bm PySem.F.plainAttrs_list PySem.F.slot_list_append PySem.F.type_list_append mt_append (pv 3) (pa_cons (pe_tup (pa_cons pe_str (pa_cons (pe_tupRg rfl (by rfl) M.tuple (prg_2 (by rfl) M.range (pe_op op_sub (pe_callB call_len_seq (by rfl) M.len PySem.boot_len (pa_cons (pv 3) pa_nil)) pe_int) (pe_callB call_len_seq (by rfl) M.len PySem.boot_len (pa_cons (pv 3) pa_nil)))) pa_nil))) pa_nil)))
        (pss_one (ps_expr (pe_bm PySem.F.plainAttrs_list PySem.F.slot_list_append PySem.F.type_list_append mt_append (pv 6) (pa_cons (pe_op op_sub (pe_callB call_len_seq (by rfl) M.len PySem.boot_len (pa_cons (pv 3) pa_nil)) pe_int) pa_nil)))))))
        (pss_cons (ps_expr (pe_bm PySem.F.plainAttrs_list PySem.F.slot_list_append PySem.F.type_list_append mt_append (pv 3) (pa_cons (pe_tup (pa_cons pe_str (pa_cons (pe_callTy call_tuple_of (by rfl) M.tuple (by decide +kernel) (pa_cons (pv 6) pa_nil)) pa_nil))) pa_nil)))
        (pss_cons (ps_for PassesOwn.never rfl (pi_range1 (by rfl) M.range (pa_cons (pe_op op_add pe_int (pe_call GD (hr.mono (by decide)) rfl mD kD bD .nil pass0 (pa_cons (pv 0) (pa_cons pe_int pa_nil)))) pa_nil)) (pg_name (i := 8) nd rfl (Or.inl rfl)) (pss_one (ps_expr (pe_bm PySem.F.plainAttrs_list PySem.F.slot_list_append PySem.F.type_list_append mt_append (pv 3) (pa_cons (pe_tup (pa_cons pe_str (pa_cons pe_int (pa_cons (pe_op op_sub (pe_callB call_len_seq (by rfl) M.len PySem.boot_len (pa_cons (pv 3) pa_nil)) pe_int) pa_nil)))) pa_nil)))))
        (pss_one (ps_ret (pe_callTy call_tuple_of (by rfl) M.tuple (by decide +kernel) (pa_cons (pv 3) pa_nil))))))))) pss_nil)
        (pss_one (ps_ret (pe_tup (pa_cons (pv 2) (pa_cons (pe_ix ix_list (pe_lst (pa_cons (pe_tup (pa_cons pe_str (pa_cons pe_int (pa_cons pe_int (pa_cons pe_int pa_nil))))) (pa_cons (pe_tup (pa_cons pe_str (pa_cons pe_int (pa_cons pe_int (pa_cons pe_int pa_nil))))) (pa_cons (pe_tup (pa_cons pe_str (pa_cons pe_int (pa_cons pe_int (pa_cons pe_int pa_nil))))) (pa_cons (pe_tup (pa_cons pe_str (pa_cons pe_int (pa_cons pe_int pa_nil)))) (pa_cons (pe_tup (pa_cons pe_str (pa_cons pe_int (pa_cons (pe_tup (pa_cons pe_int pa_nil)) pa_nil)))) (pa_cons (pe_tup (pa_cons pe_str (pa_cons pe_int (pa_cons (pe_tup (pa_cons pe_int pa_nil)) pa_nil)))) (pa_cons (pe_tup (pa_cons pe_str (pa_cons (pe_tup pa_nil) pa_nil))) (pa_cons (pe_tup (pa_cons pe_str (pa_cons (pe_un un_neg pe_int) (pa_cons pe_int pa_nil)))) pa_nil))))))))) (pe_call GD (hr.mono (by decide)) rfl mD kD bD .nil pass0 (pa_cons (pv 0) (pa_cons pe_int pa_nil))) (fun _ _ => rfl)) pa_nil))))))))))), ?_⟩
    refine ⟨_, rfl, b, 5, rfl, B, by decide, fun rk H1 rk0 rk5 B1 U1 => ?_⟩
    refine ⟨six, fun j nj => ?_⟩
    have E0 : Ed K H b j [V.str "job", .int 1, .str (if true = true then "gives" else "throws"), .int 2, .int 0, optV none] (upd H1 j (.tup [V.str "job", .int 1, .str "gives", .int 2, .int 0, .non])) [] [] := ⟨B1.new nj, U1.new nj, SqT.of upd_same, .nil⟩
    clear U1 B1 nj
    generalize (upd H1 j (.tup [V.str "job", .int 1, .str "gives", .int 2, .int 0, .non])) = H2 at E0
    have ej : ∀ {H'}, SqT K H' j [V.str "job", .int 1, .str (if true = true then "gives" else "throws"), .int 2, .int 0, optV none] → NdAt K H' (.ref j) (.job 1 true 2 0 none) := fun h => ⟨j, rfl, h⟩
    refine ⟨_, rfl, rfl, _, rfl, ite2 (fun _ => ?_) (fun _ => ?_)⟩
    · -- one after another
      refine ⟨_, rfl, one, fun l nl => ?_⟩
      have G : Gl K H2 (upd H2 l (.lst [V.ref j])) b l [.job 1 true 2 0 none] := { B0 := E0.B, B := E0.B.new nl, U := (But.refl b H2).new nl, e := nl, n := ⟨_, upd_same, (NdsAt.one (ej E0.s)).tp (Tp.same (same_new nl))⟩ }
      refine ⟨_, rfl, b, 2, rfl, G.B, by decide, fun r H3 r0 r1 B3 U3 => ?_⟩
      have G := G.but B3 U3
      refine ⟨_, _, rfl, rfl, _, rfl, by omega, by omega, ?_⟩
      refine for_range (n := (7 + r).toNat) (fun i σ H' => ∃ (N : List Nd) (v4 : Option V), σ = [some (.ref b), some (.int rk), some (.ref j), some (.ref l), v4, none, none, none, none] ∧ Gl K H2 H' b l N ∧ N.length = i + 1)
        ⟨_, none, rfl, G, rfl⟩ ?_ ?_
      · rintro i σ H4 hi ⟨N, v4, rfl, G, hN⟩
        obtain ⟨vs, hl, nv⟩ := G.n
        refine ⟨_, rfl, .inl ⟨rfl, _, SqL.of hl⟩, _, rfl, one, fun t nt => ⟨two, fun u nu => ?_⟩⟩
        have G := (G.new (o := .tup [V.int (0 + (i : Int))]) nt).new (o := .tup [V.str "sequence", .ref t]) nu
        have hl := same_new (o := .tup [V.str "sequence", .ref t]) nu _ _ (same_new (o := .tup [V.int (0 + (i : Int))]) nt _ _ hl)
        have hn : NdAt K (upd (upd H4 t (.tup [V.int (0 + (i : Int))])) u (.tup [V.str "sequence", .ref t])) (.ref u) (.whole (.plain .sequence) [0 + (i : Int)]) := ⟨u, t, rfl, SqT.of upd_same, SqT.of (same_new nu _ _ upd_same)⟩
        refine ⟨l, vs, _, rfl, rfl, hl, ?_, _, _, rfl, G.push hl hn, ?_⟩
        · rw [nv.len]
          exact small_line (by omega)
        · rw [List.length_append, hN]
          rfl
      · rintro σ H4 ⟨N, v4, rfl, G, hN⟩
        obtain ⟨vs, hl, nv⟩ := G.n
        refine ⟨_, rfl, l, vs, rfl, .inl ⟨SqL.of hl, fun u nu => ?_⟩⟩
        exact q _ N _ (by omega) (G.B.new nu) ((E0.U.trans G.U).new nu) ⟨u, vs, rfl, SqT.of upd_same, nv.tp (Tp.same (same_new nu))⟩
    refine ⟨_, rfl, rfl, _, rfl, ite2 (fun _ => ?_) (fun _ => ?_)⟩
    · -- retries
      refine ⟨_, rfl, b, 2, rfl, E0.B, by decide, fun r H3 r0 r1 B3 U3 => ?_⟩
      have E1 := E0.but B3 U3
      refine ⟨_, _, rfl, rfl, ?_⟩
      obtain ⟨m, hm⟩ : ∃ m : Int, (5 : Int) + r = m := ⟨_, rfl⟩
      have hv : (fun i j : Int => V.int (i + j)) 5 r = V.int m := congrArg V.int hm
      rw [hv]
      have m5 : 5 ≤ m ∧ m ≤ 6 := ⟨by omega, by omega⟩
      refine ⟨_, rfl, one, fun t1 n1 => ?_⟩
      have E1 := E1.new (o := .tup [V.ref j]) n1
      refine ⟨_, rfl, t1, m, _, rfl, rfl, SqT.of upd_same, (fun e => (nomatch e)), by omega, by omega, (by show 1 ≤ 1000; decide), fun p np => ?_⟩
      rw [flat_rep]
      have E1 := E1.new (o := .tup (List.replicate m.toNat (V.ref j))) np
      have sp := made_tup (K := K) (xs := List.replicate m.toNat (V.ref j)) np
      -- all
      refine ⟨_, rfl, _, rfl, ⟨by decide, by decide, by omega, by omega, by omega⟩, fun p2 np2 => ?_⟩
      rw [rgV_I]
      have E1 := E1.new (o := .tup ((rgI 0 m).map V.int)) np2
      have sp := (Tp.same (same_new (o := .tup ((rgI 0 m).map V.int)) np2)).seq sp
      have s2 := made_tup (K := K) (xs := (rgI 0 m).map V.int) np2
      refine ⟨two, fun t2 n2 => ?_⟩
      have E1 := E1.new (o := .tup [V.str "all", .ref p2]) n2
      have sp := (Tp.same (same_new (o := .tup [V.str "all", .ref p2]) n2)).seq sp
      have s2 := (Tp.same (same_new (o := .tup [V.str "all", .ref p2]) n2)).seq s2
      have E1 := E1.add (n := .whole (.plain .all) (rgI 0 m)) ⟨t2, p2, rfl, SqT.of upd_same, s2⟩
      -- retry
      refine ⟨three, fun l nl => ?_⟩
      have B4 := E1.B
      have E1 := E1.new (o := .lst [V.int 5, .int 5, .int 4]) nl
      have sp := (Tp.same (same_new (o := .lst [V.int 5, .int 5, .int 4]) nl)).seq sp
      refine ⟨_, rfl, b, 3, rfl, E1.B, by decide, fun r2 H5 r20 r23 B5 U5 => ?_⟩
      have sp := (Tp.but E1.B U5).seq sp
      have hl := B4.keepL nl U5
      have E1 := E1.but B5 U5
      obtain ⟨y, hy⟩ := pick3 (x := 5) (y := 5) (z := 4) r20 r23
      refine ⟨l, _, _, _, rfl, rfl, SqL.of hl, hy, _, rfl, four, fun t3 n3 => ?_⟩
      have E1 := E1.new (o := .tup [V.str "retry", .int y, .int 0, .int m]) n3
      have sp := (Tp.same (same_new (o := .tup [V.str "retry", .int y, .int 0, .int m]) n3)).seq sp
      have E1 := E1.add (n := .whole (.retry y 0) [m]) ⟨t3, m, rfl, rfl, SqT.of upd_same⟩
      refine ⟨_, rfl, _, _, rfl, rfl, four, fun t4 n4 => ?_⟩
      have E1 := E1.new (o := .tup [V.str "retry", .int 1, .int 0, .int (m + 1)]) n4
      have sp := (Tp.same (same_new (o := .tup [V.str "retry", .int 1, .int 0, .int (m + 1)]) n4)).seq sp
      have E1 := E1.add (n := .whole (.retry 1 0) [m + 1]) ⟨t4, m + 1, rfl, rfl, SqT.of upd_same⟩
      refine ⟨three, fun t5 n5 => ?_⟩
      have E1 := E1.new (o := .tup [V.ref t2, .ref t3, .ref t4]) n5
      have sp := (Tp.same (same_new (o := .tup [V.ref t2, .ref t3, .ref t4]) n5)).seq sp
      have ne : List.replicate m.toNat (V.ref j) ≠ [] := by
        intro e
        have := congrArg List.length e
        rw [List.length_replicate] at this
        simp at this
        omega
      refine ⟨p, t5, _, _, rfl, rfl, sp, SqT.of upd_same, ?_, fun e => absurd e ne, fun _ e => (nomatch e), fun _ _ p6 np6 => ?_⟩
      · rw [List.length_replicate]
        exact Nat.le_of_lt (small_line (by show m.toNat + 3 ≤ 4000; omega))
      · have E1 := E1.new (o := .tup (List.replicate m.toNat (V.ref j) ++ [V.ref t2, .ref t3, .ref t4])) np6
        refine q _ (List.replicate m.toNat (.job 1 true 2 0 none) ++ [.whole (.plain .all) (rgI 0 m), .whole (.retry y 0) [m], .whole (.retry 1 0) [m + 1]]) _ ?_ E1.B E1.U ⟨p6, _, rfl, SqT.of upd_same, (NdsAt.rep (ej E1.s) _).app E1.n⟩
        rw [List.length_append, List.length_replicate]
        show m.toNat + 3 ≤ 45
        omega
    refine ⟨_, rfl, rfl, _, rfl, ite2 (fun _ => ?_) (fun _ => ?_)⟩
    · -- race, pool
      refine ⟨_, rfl, b, 2, rfl, E0.B, by decide, fun r H3 r0 r1 B3 U3 => ?_⟩
      have E1 := E0.but B3 U3
      refine ⟨_, _, rfl, rfl, ?_⟩
      obtain ⟨m, hm⟩ : ∃ m : Int, (6 : Int) + r = m := ⟨_, rfl⟩
      have hv : (fun i j : Int => V.int (i + j)) 6 r = V.int m := congrArg V.int hm
      rw [hv]
      have m5 : 6 ≤ m ∧ m ≤ 7 := ⟨by omega, by omega⟩
      refine ⟨_, rfl, one, fun t1 n1 => ?_⟩
      have E1 := E1.new (o := .tup [V.ref j]) n1
      refine ⟨_, rfl, t1, m, _, rfl, rfl, SqT.of upd_same, (fun e => (nomatch e)), by omega, by omega, (by show 1 ≤ 1000; decide), fun p np => ?_⟩
      rw [flat_rep]
      have E1 := E1.new (o := .tup (List.replicate m.toNat (V.ref j))) np
      have sp := made_tup (K := K) (xs := List.replicate m.toNat (V.ref j)) np
      -- race
      refine ⟨_, rfl, _, rfl, ⟨by decide, by decide, by omega, by omega, by omega⟩, fun p2 np2 => ?_⟩
      rw [rgV_I]
      have E1 := E1.new (o := .tup ((rgI 0 m).map V.int)) np2
      have sp := (Tp.same (same_new (o := .tup ((rgI 0 m).map V.int)) np2)).seq sp
      have s2 := made_tup (K := K) (xs := (rgI 0 m).map V.int) np2
      refine ⟨two, fun t2 n2 => ?_⟩
      have E1 := E1.new (o := .tup [V.str "race", .ref p2]) n2
      have sp := (Tp.same (same_new (o := .tup [V.str "race", .ref p2]) n2)).seq sp
      have s2 := (Tp.same (same_new (o := .tup [V.str "race", .ref p2]) n2)).seq s2
      have E1 := E1.add (n := .whole (.plain .race) (rgI 0 m)) ⟨t2, p2, rfl, SqT.of upd_same, s2⟩
      -- pool
      refine ⟨_, rfl, _, rfl, ⟨by decide, by decide, by omega, by omega, by omega⟩, fun p3 np3 => ?_⟩
      rw [rgV_I]
      have E1 := E1.new (o := .tup ((rgI 0 m).map V.int)) np3
      have sp := (Tp.same (same_new (o := .tup ((rgI 0 m).map V.int)) np3)).seq sp
      have s3 := made_tup (K := K) (xs := (rgI 0 m).map V.int) np3
      refine ⟨three, fun t3 n3 => ?_⟩
      have E1 := E1.new (o := .tup [V.str "pool", .int 2, .ref p3]) n3
      have sp := (Tp.same (same_new (o := .tup [V.str "pool", .int 2, .ref p3]) n3)).seq sp
      have s3 := (Tp.same (same_new (o := .tup [V.str "pool", .int 2, .ref p3]) n3)).seq s3
      have E1 := E1.add (n := .whole (.pool 2) (rgI 0 m)) ⟨t3, p3, rfl, SqT.of upd_same, s3⟩
      refine ⟨two, fun l nl => ?_⟩
      have B4 := E1.B
      have E1 := E1.new (o := .lst [V.ref t2, .ref t3]) nl
      have sp := (Tp.same (same_new (o := .lst [V.ref t2, .ref t3]) nl)).seq sp
      refine ⟨_, rfl, b, 2, rfl, E1.B, by decide, fun r2 H5 r20 r23 B5 U5 => ?_⟩
      have sp := (Tp.but E1.B U5).seq sp
      have hl := B4.keepL nl U5
      have E1 := E1.but B5 U5
      obtain ⟨i, rfl⟩ : ∃ i : Nat, r2 = (i : Int) := ⟨r2.toNat, by omega⟩
      obtain ⟨u, n, hu, _, nu⟩ := E1.n.get (i := i) (by show i < 2; omega)
      refine ⟨l, _, _, u, rfl, rfl, SqL.of hl, atI_nat hu, one, fun t5 n5 => ?_⟩
      have E1 := E1.new (o := .tup [u]) n5
      have sp := (Tp.same (same_new (o := .tup [u]) n5)).seq sp
      have nu := nu.new (o := .tup [u]) n5
      have ne : List.replicate m.toNat (V.ref j) ≠ [] := by
        intro e
        have := congrArg List.length e
        rw [List.length_replicate] at this
        simp at this
        omega
      refine ⟨p, t5, _, _, rfl, rfl, sp, SqT.of upd_same, ?_, fun e => absurd e ne, fun _ e => (nomatch e), fun _ _ p6 np6 => ?_⟩
      · rw [List.length_replicate]
        exact Nat.le_of_lt (small_line (by show m.toNat + 1 ≤ 4000; omega))
      · have E1 := E1.new (o := .tup (List.replicate m.toNat (V.ref j) ++ [u])) np6
        refine q _ (List.replicate m.toNat (.job 1 true 2 0 none) ++ [n]) _ ?_ E1.B E1.U ⟨p6, _, rfl, SqT.of upd_same, (NdsAt.rep (ej E1.s) _).app (.one (nu.new np6))⟩
        rw [List.length_append, List.length_replicate]
        show m.toNat + 1 ≤ 45
        omega
    refine ⟨_, rfl, rfl, _, rfl, ite2 (fun _ => ?_) (fun _ => ?_)⟩
    · -- many nodes
      refine ⟨zero, fun l nl => ⟨zero, fun lt nt => ?_⟩⟩
      have E1 := (E0.new (o := .lst []) nl).new (o := .lst []) nt
      have et := (same_new (o := .lst []) nl).free nt
      have G : Gk K H2 (upd (upd H2 l (.lst [])) lt (.lst [])) b l lt [] [] (.ref j) (.job 1 true 2 0 none) :=
        { B0 := E0.B, B := E1.B, U := ((But.refl b H2).new nl).new nt, e := nl, et := et, ne := ne_of_none upd_same nt, n := ⟨[], same_new nt _ _ upd_same, .nil⟩, t := upd_same, j := ej E1.s }
      refine ⟨5, rfl, by decide, by decide, for_range (n := 5) (fun i σ H' => ∃ (N : List Nd) (T : List Int) (v7 v8 : Option V), σ = [some (.ref b), some (.int rk), some (.ref j), some (.ref l), none, none, some (.ref lt), v7, v8] ∧ Gk K H2 H' b l lt N T (.ref j) (.job 1 true 2 0 none) ∧ N.length = 7 * i ∧ T.length = i)
        ⟨[], [], none, none, rfl, G, rfl, rfl⟩ ?_ ?_⟩
      · rintro i σ H3 hi ⟨N, T, v7, v8, rfl, G, hN, hT⟩
        refine ⟨6, rfl, by decide, by decide, for_range (n := 6) (fun k σ H' => ∃ (N : List Nd) (v8 : Option V), σ = [some (.ref b), some (.int rk), some (.ref j), some (.ref l), none, none, some (.ref lt), some (.int (0 + i)), v8] ∧ Gk K H2 H' b l lt N T (.ref j) (.job 1 true 2 0 none) ∧ N.length = 7 * i + k)
          ⟨N, v8, rfl, G, by omega⟩ ?_ ?_⟩
        · rintro k σ H4 hk ⟨N, v8, rfl, G, hN⟩
          obtain ⟨vs, hl, nv⟩ := G.n
          refine ⟨_, rfl, .inl ⟨rfl, _, SqL.of hl⟩, _, rfl, l, vs, _, rfl, rfl, hl, ?_, _, _, rfl, G.push hl G.j, ?_⟩
          · rw [nv.len]
            exact small_line (by omega)
          · rw [List.length_append, hN]
            rfl
        · rintro σ H4 ⟨N, v8, rfl, G, hN⟩
          obtain ⟨vs, hl, nv⟩ := G.n
          have vl := nv.len
          refine ⟨_, rfl, .inl ⟨rfl, _, SqL.of hl⟩, _, rfl, l, vs, rfl, .inl (SqL.of hl), _, _, rfl, rfl, _, rfl, l, vs, rfl, .inl (SqL.of hl), _, _, rfl, rfl, ⟨by omega, by omega, by omega, by omega, by omega⟩, fun p np => ?_⟩
          rw [rgV_I]
          have G := G.new (o := .tup ((rgI ((vs.length : Int) - 6) (vs.length : Int)).map V.int)) np
          have hl := same_new (o := .tup ((rgI ((vs.length : Int) - 6) (vs.length : Int)).map V.int)) np _ _ hl
          have sp := made_tup (K := K) (xs := (rgI ((vs.length : Int) - 6) (vs.length : Int)).map V.int) np
          refine ⟨two, fun t nt => ?_⟩
          have G := G.new (o := .tup [V.str "any", .ref p]) nt
          have hl := same_new (o := .tup [V.str "any", .ref p]) nt _ _ hl
          have sp := (Tp.same (same_new (o := .tup [V.str "any", .ref p]) nt)).seq sp
          have G := G.push hl (n := .whole (.plain .any) (rgI ((vs.length : Int) - 6) (vs.length : Int))) (v := .ref t) ⟨t, p, rfl, SqT.of upd_same, sp⟩
          refine ⟨l, vs, _, rfl, rfl, hl, small_line (by omega), ?_⟩
          obtain ⟨vs2, hl2, nv2⟩ := G.n
          have G2 := G.pushT (x := (vs2.length : Int) - 1)
          refine ⟨_, rfl, .inl ⟨rfl, _, SqL.of G.t⟩, _, rfl, l, vs2, rfl, .inl (SqL.of hl2), _, _, rfl, rfl, lt, _, _, rfl, rfl, G.t, ?_, ?_⟩
          · rw [List.length_map, hT]
            exact small_line (by omega)
          · refine ⟨_, _, _, _, rfl, G2, ?_, ?_⟩
            · rw [List.length_append, hN]
              show 7 * i + 6 + 1 = 7 * (i + 1)
              omega
            · rw [List.length_append, hT]
              rfl
      · rintro σ H3 ⟨N, T, v7, v8, rfl, G, hN, hT⟩
        obtain ⟨vs, hl, nv⟩ := G.n
        have vl := nv.len
        refine ⟨_, rfl, .inl ⟨rfl, _, SqL.of hl⟩, _, rfl, lt, _, rfl, .inl ⟨SqL.of G.t, fun p np => ?_⟩⟩
        have G := G.new (o := .tup (T.map V.int)) np
        have hl := same_new (o := .tup (T.map V.int)) np _ _ hl
        have sp := made_tup (K := K) (xs := T.map V.int) np
        refine ⟨two, fun t nt => ?_⟩
        have G := G.new (o := .tup [V.str "sequence", .ref p]) nt
        have hl := same_new (o := .tup [V.str "sequence", .ref p]) nt _ _ hl
        have sp := (Tp.same (same_new (o := .tup [V.str "sequence", .ref p]) nt)).seq sp
        have G := G.push hl (n := .whole (.plain .sequence) T) (v := .ref t) ⟨t, p, rfl, SqT.of upd_same, sp⟩
        refine ⟨l, vs, _, rfl, rfl, hl, small_line (by omega), ?_⟩
        refine ⟨_, rfl, b, 3, rfl, G.B, by decide, fun r H4 r0 r3 B4 U4 => ?_⟩
        have G := G.but B4 U4
        refine ⟨_, _, rfl, rfl, _, rfl, by omega, by omega, ?_⟩
        refine for_range (n := (3 + r).toNat) (fun k σ H' => ∃ (N : List Nd) (v8 : Option V), σ = [some (.ref b), some (.int rk), some (.ref j), some (.ref l), none, none, some (.ref lt), v7, v8] ∧ Gk K H2 H' b l lt N T (.ref j) (.job 1 true 2 0 none) ∧ N.length = 36 + k)
          ⟨_, v8, rfl, G, by rw [List.length_append, hN]; rfl⟩ ?_ ?_
        · rintro k σ H5 hk ⟨N, v8, rfl, G, hN⟩
          obtain ⟨vs, hl, nv⟩ := G.n
          have vl := nv.len
          refine ⟨_, rfl, .inl ⟨rfl, _, SqL.of hl⟩, _, rfl, l, vs, rfl, .inl (SqL.of hl), _, _, rfl, rfl, three, fun t nt => ?_⟩
          have G := G.new (o := .tup [V.str "timeout", .int 1, .int ((vs.length : Int) - 1)]) nt
          have hl := same_new (o := .tup [V.str "timeout", .int 1, .int ((vs.length : Int) - 1)]) nt _ _ hl
          refine ⟨l, vs, _, rfl, rfl, hl, small_line (by omega), _, _, rfl, G.push hl (n := .whole (.timeout 1) [(vs.length : Int) - 1]) ⟨t, _, rfl, rfl, SqT.of upd_same⟩, ?_⟩
          rw [List.length_append, hN]
          rfl
        · rintro σ H5 ⟨N, v8, rfl, G, hN⟩
          obtain ⟨vs, hl, nv⟩ := G.n
          refine ⟨_, rfl, l, vs, rfl, .inl ⟨SqL.of hl, fun u nu => ?_⟩⟩
          exact q _ N _ (by omega) (G.B.new nu) ((E0.U.trans G.U).new nu) ⟨u, vs, rfl, SqT.of upd_same, nv.tp (Tp.same (same_new nu))⟩
    -- out of bounds
    refine ⟨_, rfl, ?_⟩
    have E1 := E0
    refine ⟨four, fun t1 n1 => ?_⟩
    have E1 := E1.new (o := .tup [V.str "retry", .int 6, .int 0, .int 0]) n1
    have E1 := E1.add (u := .ref t1) (n := .whole (.retry 6 0) [0]) ⟨t1, 0, rfl, rfl, SqT.of upd_same⟩
    refine ⟨four, fun t2 n2 => ?_⟩
    have E1 := E1.new (o := .tup [V.str "retry", .int 5, .int 100, .int 0]) n2
    have E1 := E1.add (u := .ref t2) (n := .whole (.retry 5 100) [0]) ⟨t2, 0, rfl, rfl, SqT.of upd_same⟩
    refine ⟨four, fun t3 n3 => ?_⟩
    have E1 := E1.new (o := .tup [V.str "retry", .int 0, .int 101, .int 0]) n3
    have E1 := E1.add (u := .ref t3) (n := .whole (.retry 0 101) [0]) ⟨t3, 0, rfl, rfl, SqT.of upd_same⟩
    refine ⟨three, fun t4 n4 => ?_⟩
    have E1 := E1.new (o := .tup [V.str "timeout", .int 1001, .int 0]) n4
    have E1 := E1.add (u := .ref t4) (n := .whole (.timeout 1001) [0]) ⟨t4, 0, rfl, rfl, SqT.of upd_same⟩
    refine ⟨one, fun p5 np5 => ?_⟩
    have E1 := E1.new (o := .tup [V.int 0]) np5
    have s5 := made_tup (K := K) (xs := [V.int 0]) np5
    refine ⟨three, fun t5 n5 => ?_⟩
    have E1 := E1.new (o := .tup [V.str "pool", .int 7, .ref p5]) n5
    have s5 := (Tp.same (same_new (o := .tup [V.str "pool", .int 7, .ref p5]) n5)).seq s5
    have E1 := E1.add (u := .ref t5) (n := .whole (.pool 7) [0]) ⟨t5, p5, rfl, SqT.of upd_same, s5⟩
    refine ⟨one, fun p6 np6 => ?_⟩
    have E1 := E1.new (o := .tup [V.int 0]) np6
    have s6 := made_tup (K := K) (xs := [V.int 0]) np6
    refine ⟨three, fun t6 n6 => ?_⟩
    have E1 := E1.new (o := .tup [V.str "pool", .int 0, .ref p6]) n6
    have s6 := (Tp.same (same_new (o := .tup [V.str "pool", .int 0, .ref p6]) n6)).seq s6
    have E1 := E1.add (u := .ref t6) (n := .whole (.pool 0) [0]) ⟨t6, p6, rfl, SqT.of upd_same, s6⟩
    refine ⟨zero, fun p7 np7 => ?_⟩
    have E1 := E1.new (o := .tup []) np7
    have s7 := made_tup (K := K) (xs := []) np7
    refine ⟨two, fun t7 n7 => ?_⟩
    have E1 := E1.new (o := .tup [V.str "all", .ref p7]) n7
    have s7 := (Tp.same (same_new (o := .tup [V.str "all", .ref p7]) n7)).seq s7
    have E1 := E1.add (u := .ref t7) (n := .whole (.plain .all) []) ⟨t7, p7, rfl, SqT.of upd_same, s7⟩
    refine ⟨_, rfl, three, fun t8 n8 => ?_⟩
    have E1 := E1.new (o := .tup [V.str "timeout", (fun i => V.int (-i)) 1, .int 0]) n8
    have E1 := E1.add (u := .ref t8) (n := .whole (.timeout (-1)) [0]) ⟨t8, 0, rfl, rfl, SqT.of upd_same⟩
    refine ⟨eight, fun l nl => ?_⟩
    have B4 := E1.B
    have E1 := E1.new (o := .lst [V.ref t1, .ref t2, .ref t3, .ref t4, .ref t5, .ref t6, .ref t7, .ref t8]) nl
    refine ⟨_, rfl, b, 8, rfl, E1.B, by decide, fun r2 H5 r20 r23 B5 U5 => ?_⟩
    have hl := B4.keepL nl U5
    have E1 := E1.but B5 U5
    obtain ⟨i, rfl⟩ : ∃ i : Nat, r2 = (i : Int) := ⟨r2.toNat, by omega⟩
    obtain ⟨u, n, hu, _, nu⟩ := E1.n.get (i := i) (by show i < 8; omega)
    refine ⟨l, _, _, u, rfl, rfl, SqL.of hl, atI_nat hu, two, fun p np => ?_⟩
    have E1 := E1.new (o := .tup [V.ref j, u]) np
    exact q _ [.job 1 true 2 0 none, n] _ (by show 2 ≤ 45; decide) E1.B E1.U ⟨p, _, rfl, SqT.of upd_same, (NdsAt.one (ej E1.s)).app (.one (nu.new np))⟩
end
end LB

set_option maxRecDepth 100000
set_option maxHeartbeats 8000000
namespace LB
open PySem PySem.Spec PyProof.Rows L2
theorem sq_cast {K : PySem.W.Frag} {H : Hp} {a : Addr} {xs ys : List V} (h : SqT K H a xs) (e : ys = xs) : SqT K H a ys := by
  rw [e]
  exact h
theorem seqIx {i n : Nat} (h : i < n) : seqIndex? (i : Int) n = some i := by
  unfold seqIndex?
  have h1 : ¬ ((i : Int) < 0) := by omega
  simp only [h1, if_false]
  rw [if_pos (by rw [Bool.and_eq_true]; exact ⟨decide_eq_true (by omega), decide_eq_true (by omega)⟩)]
  simp
theorem ixNat {i n : Nat} (h : i < n) : ixN n (i : Int) = some i := by
  unfold ixN
  rw [if_pos (by omega), if_pos (by omega)]
  simp
theorem in_four {x a b c d : Str} (h : inV (V.str x) [V.str a, V.str b, V.str c, V.str d] = true) : a = x ∨ b = x ∨ c = x ∨ d = x := by
  have h : ((a == x) || ((b == x) || ((c == x) || ((d == x) || false)))) = true := h
  rw [Bool.or_false, Bool.or_eq_true, Bool.or_eq_true, Bool.or_eq_true] at h
  exact h.imp (fun e => eq_of_beq e) fun h => h.imp (fun e => eq_of_beq e) fun h => h.imp (fun e => eq_of_beq e) fun e => eq_of_beq e
theorem cut_short {ps : List Int} (h : 1 ≤ ps.length) : ¬ (HT.sIx (ps.map V.int).length 0 none = 0 ∧ HT.sIx (ps.map V.int).length (ps.map V.int).length (some (-1)) = (ps.map V.int).length) := by
  rintro ⟨_, e⟩
  have e2 : HT.sIx (ps.map V.int).length (ps.map V.int).length (some (-1)) = ((-1 : Int) + ((ps.map V.int).length : Int)).toNat := by
    show (if (-1 : Int) < 0 then ((-1 : Int) + ((ps.map V.int).length : Int)).toNat else min ((-1 : Int)).toNat (ps.map V.int).length) = _
    rw [if_pos (by decide)]
  rw [e2, List.length_map] at e
  omega
section
variable {P : Program} {w : World} {K : PySem.W.Frag} {mg : Str → Option Value} {base : Heap}
def spLSpoil (K : PySem.W.Frag) : Sp := fun vs H Q _ => ∃ (b : Addr) (v : V) (N : List Nd), vs = [.ref b, v] ∧ Box H b ∧ PlanAt K H v N ∧ OkN N ∧ 1 ≤ N.length ∧ ∀ (v : V) (N : List Nd) (H' : Hp), N.length ≤ 45 → Box H' b → But b H H' → PlanAt K H' v N → Q v H'
theorem scLSpoil : FnScope ["box", "plan", "nodes", "at", "kind", "node"] ["box", "plan"] (defScope sLSpoil) := ⟨rfl, rfl, rfl, by decide +kernel, rfl, by decide +kernel, by decide +kernel⟩
theorem ok_lspoil {f fD fN fL : Addr} {fd fdD fdN fdL : FuncData} (F : Fun K "_law_spoil" "_law_spoil" sLSpoil f fd) (M : NamesQ mg) (FD : Fun K "_law_draw" "_law_draw" sDraw fD fdD) (mD : mg "_law_draw" = some (.ref fD)) (bD : Binds K fdD ["box", "many"] [])
    (FN : Fun K "_law_number" "_law_number" sLNumber fN fdN) (mN : mg "_law_number" = some (.ref fN)) (bN : Binds K fdN ["box", "node"] []) (FL : Fun K "_law_long" "_law_long" sLLong fL fdL) (mL : mg "_law_long" = some (.ref fL)) (bL : Binds K fdL ["box"] []) :
    FnOk P w K mg base CX0 3 f fd ["box", "plan"] (spLSpoil K) := by
  have GD : FnOk P w K mg base CX0 1 fD fdD ["box", "many"] (spDraw K) := ok_draw FD M.toNames
  have GN : FnOk P w K mg base CX0 2 fN fdN ["box", "node"] (spLNumber K) := ok_lnumber FN M.toNames FD mD bD
  have GL : FnOk P w K mg base CX0 2 fL fdL ["box"] (spLLong K) := ok_llong FL M FD mD bD
  have kD := FD.kp
  have kN := FN.kp
  have kL := FL.kp
  refine F.ok scLSpoil (fun vs H Q E h => ?_) (fun cdv A outer s H vs Q E hr h => ?_)
  · obtain ⟨b, v, N, rfl, _⟩ := h
    rfl
  · obtain ⟨b, v, N, rfl, B, ⟨a, vs, rfl, sq, nv⟩, ok, l1, q⟩ := h
    have nd := scLSpoil.nd
    have one : (1 : Nat) ≤ sizeLine := by decide
    have two : (2 : Nat) ≤ sizeLine := by decide
    have four : (4 : Nat) ≤ sizeLine := by decide
    have l40 := ok.len
    refine ⟨_, (pss_cons (ps_set (i := 2) nd rfl (Or.inl rfl) (pe_callTy call_list_of (by rfl) M.list (by decide +kernel) (pa_cons (pv 1) pa_nil)))
        (pss_cons (ps_set (i := 3) nd rfl (Or.inl rfl) (pe_call GD (hr.mono (by decide)) rfl mD kD bD .nil pass0 (pa_cons (pv 0) (pa_cons (pe_callB call_len_seq (by rfl) M.len PySem.boot_len (pa_cons (pv 2) pa_nil)) pa_nil))))
        (pss_cons (ps_set (i := 4) nd rfl (Or.inl rfl) (pe_call GD (hr.mono (by decide)) rfl mD kD bD .nil pass0 (pa_cons (pv 0) (pa_cons pe_int pa_nil))))
        (pss_cons (ps_set (i := 5) nd rfl (Or.inl rfl) (pe_ix ix_list (pv 2) (pv 3) (fun _ _ => rfl)))
        (C8.pss_cut (ps_if (pt_cmpR op_eq (pv 4) pe_int (nomark _)) (pss_one (ps_expr (pe_bm PySem.F.plainAttrs_list PySem.F.slot_list_pop PySem.F.type_list_pop mt_popAt (pv 2) (pa_cons (pv 3) pa_nil)))) (pss_one (ps_if (pt_cmpR op_eq (pv 4) pe_int (nomark _)) (pss_one (ps_expr (pe_bm PySem.F.plainAttrs_list PySem.F.slot_list_insert PySem.F.type_list_insert mt_insert (pv 2) (pa_cons (pv 3) (pa_cons (pv 5) pa_nil))))) (pss_one (ps_if (PW.pt (pw_and (pt_cmpR op_eq (pv 4) pe_int (nomark _)) (pw_and1 (pt_cmpR op_gt (pv 3) pe_int (nomark _))))) (pss_cons (ps_asg (pe_ix ix_list (pv 2) (pe_op op_sub (pv 3) pe_int) (fun _ _ => rfl)) (pg_sub (pv 2) (pv 3) set_list))
        (pss_one (ps_asg (pv 5) (pg_sub (pv 2) (pe_op op_sub (pv 3) pe_int) set_list)))) (pss_one (ps_if (PW.pt (pw_and (pt_cmpR op_eq (pv 4) pe_int (nomark _)) (pw_and1 (pt_cmpR op_in_seq (pe_ix ix_tup (pv 5) pe_int (fun _ _ => rfl)) (pe_tup (pa_cons pe_str (pa_cons pe_str (pa_cons pe_str (pa_cons pe_str pa_nil))))) rfl)))) (pss_one (ps_asg (pe_tup (pa_cons (pe_ix ix_tup (pv 5) pe_int (fun _ _ => rfl)) (pa_cons (pe_op op_catA (pe_slice sl_tupA (pe_ix ix_tup (pv 5) pe_int (fun _ _ => rfl)) po_none (po_some (pe_un un_neg pe_int))) (pe_tup (pa_cons (pe_op op_sub (pe_op op_add (pe_ix ix_tup (pe_ix ix_tup (pv 5) pe_int (fun _ _ => rfl)) (pe_un un_neg pe_int) (fun _ _ => rfl)) pe_int) (pe_op op_mul pe_int (pe_call GD (hr.mono (by decide)) rfl mD kD bD .nil pass0 (pa_cons (pv 0) (pa_cons pe_int pa_nil))))) pa_nil))) pa_nil))) (pg_sub (pv 2) (pv 3) set_list))) (pss_one (ps_if (PW.pt (pw_and (pt_cmpR op_eq (pv 4) pe_int (nomark _)) (pw_and1 (pt_cmpR op_eq (pe_ix ix_tup (pv 5) pe_int (fun _ _ => rfl)) pe_str (nomark _))))) (pss_one (ps_asg (pe_call GN (hr.mono (by decide)) rfl mN kN bN .nil pass0 (pa_cons (pv 0) (pa_cons (pv 5) pa_nil))) (pg_sub (pv 2) (pv 3) set_list))) (pss_one (ps_if (pt_cmpR op_ge (pv 4) pe_int (nomark _)) (pss_one (ps_ret (pe_call GL (hr.mono (by decide)) rfl mL kL bL .nil pass0 (pa_cons (pv 0) pa_nil)))) pss_nil)))))))))))
        (pss_one (ps_ret (pe_callTy call_tuple_of (by rfl) M.tuple (by decide +kernel) (pa_cons (pv 2) pa_nil))))))))), ?_⟩
    refine ⟨_, rfl, a, vs, rfl, .inr sq, fun l nl => ?_⟩
    have G : Gl K H (upd H l (.lst vs)) b l N := { B0 := B, B := B.new nl, U := (But.refl b H).new nl, e := nl, n := ⟨vs, upd_same, nv.tp (Tp.same (same_new nl))⟩ }
    refine ⟨_, rfl, _, rfl, l, vs, rfl, .inl (SqL.of upd_same), b, _, rfl, G.B, by have := nv.len; omega, fun r H1 r0 r1 B1 U1 => ?_⟩
    have G := G.but B1 U1
    refine ⟨_, rfl, b, 8, rfl, G.B, by decide, fun k H2 k0 k8 B2 U2 => ?_⟩
    have G := G.but B2 U2
    clear U2 U1 nl sq
    obtain ⟨vs2, hl, nv2⟩ := G.n
    have vl := nv2.len
    have r1 : r < (N.length : Int) := by rw [← nv.len]; exact r1
    obtain ⟨i, rfl⟩ : ∃ i : Nat, r = (i : Int) := ⟨r.toNat, by omega⟩
    have iN : i < N.length := by omega
    obtain ⟨u, n, hu, hn, nu⟩ := nv2.get iN
    refine ⟨_, rfl, _, rfl, l, _, _, _, rfl, rfl, SqL.of hl, atI_nat hu, ?_⟩
    refine ⟨fun σ H' => ∃ N', σ = [some (.ref b), some (.ref a), some (.ref l), some (.int i), some (.int k), some u] ∧ Gl K H H' b l N' ∧ N'.length ≤ 45, ?_, ?_⟩
    · refine ⟨_, rfl, rfl, _, rfl, ite2 (fun _ => ?_) (fun _ => ?_)⟩
      · -- one taken out
        refine ⟨_, rfl, .inl ⟨rfl, _, SqL.of hl⟩, _, rfl, l, vs2, i, i, u, rfl, rfl, hl, by omega, by omega, ?_, hu, ?_⟩
        · rw [vl]; exact seqIx iN
        · exact ⟨_, rfl, G.put (nv2.erase i), by rw [List.length_eraseIdx]; split <;> omega⟩
      refine ⟨_, rfl, rfl, _, rfl, ite2 (fun _ => ?_) (fun _ => ?_)⟩
      · -- one doubled
        refine ⟨_, rfl, .inl ⟨rfl, _, SqL.of hl⟩, _, rfl, _, rfl, l, vs2, i, u, rfl, rfl, hl, small_line (by omega), by omega, by omega, ?_⟩
        refine ⟨_, rfl, G.put (((nv2.take i).app (.one nu)).app (nv2.drop i)), ?_⟩
        simp only [List.length_append, List.length_take, List.length_drop, List.length_singleton]
        omega
      refine ⟨_, rfl, rfl, _, rfl, ite2 (fun c => ?_) (fun _ => iteF ?_)⟩
      · -- two exchanged
        have e : k = 3 := V.int.inj (of_decide_eq_true c)
        subst e
        refine ⟨_, rfl, _, _, rfl, rfl, _, rfl, ite2 (fun c => ?_) (fun c => ?_)⟩
        · have c := of_decide_eq_true c
          obtain ⟨j, rfl⟩ : ∃ j, i = j + 1 := ⟨i - 1, by omega⟩
          have ej : ((j + 1 : Nat) : Int) - 1 = (j : Nat) := by omega
          obtain ⟨u2, n2, hu2, _, nu2⟩ := nv2.get (i := j) (by omega)
          refine ⟨_, rfl, _, rfl, _, _, rfl, rfl, l, vs2, _, u2, rfl, rfl, SqL.of hl, (by rw [ej]; exact atI_nat hu2), _, rfl, _, rfl, l, vs2, _, j + 1, rfl, rfl, hl, (by rw [vl]; exact ixNat iN), ?_⟩
          have G := G.put (nv2.set (k := j + 1) nu2)
          have nv3 := (nv2.set (k := j + 1) nu2).tp (Tp.lst (o := .lst (vs2.set (j + 1) u2)) hl)
          have nu := nu.tp (Tp.lst (o := .lst (vs2.set (j + 1) u2)) hl)
          refine ⟨_, rfl, _, rfl, _, rfl, _, _, rfl, rfl, l, _, _, j, rfl, rfl, upd_same, (by rw [ej, List.length_set, vl]; exact ixNat (by omega)), ?_⟩
          refine ⟨_, rfl, G.put (nv3.set (k := j) nu), ?_⟩
          rw [List.length_set, List.length_set]
          omega
        · refine ⟨_, rfl, rfl, _, rfl, ite2 (fun c => absurd c (by decide)) (fun _ => iteF ?_)⟩
          refine ⟨_, rfl, rfl, _, rfl, ite2 (fun c => absurd c (by decide)) (fun _ => iteF ?_)⟩
          refine ⟨_, rfl, _, _, rfl, rfl, _, rfl, ite2 (fun c => absurd c (by decide)) (fun _ => ?_)⟩
          exact ⟨_, rfl, G, by omega⟩
      refine ⟨_, rfl, rfl, _, rfl, ite2 (fun c => ?_) (fun _ => iteF ?_)⟩
      · -- a part one more or less
        have e : k = 4 := V.int.inj (of_decide_eq_true c)
        subst e
        obtain ⟨au, xs, rfl, su⟩ := nu.head
        refine ⟨_, rfl, au, _, _, _, rfl, rfl, su, atI_head, four, fun t nt => ⟨t, _, rfl, .inr (SqT.of upd_same), rfl, rfl, _, rfl, ite2 (fun c => ?_) (fun _ => ?_)⟩⟩
        · have c := in_four c
          have nw : n.word ≠ "job" ∧ n.word ≠ "timeout" ∧ n.word ≠ "retry" ∧ n.word ≠ "orelse" ∧ n.word ≠ "pool" := by
            rcases c with c | c | c | c
            · rw [← c]; exact pk_ne .all
            · rw [← c]; exact pk_ne .race
            · rw [← c]; exact pk_ne .any
            · rw [← c]; exact pk_ne .sequence
          obtain ⟨a', pb, pw, ps, rfl, e2, sj, sb⟩ := of_plain nw.1 nw.2.1 nw.2.2.1 nw.2.2.2.1 nw.2.2.2.2 nu
          cases e2
          have pos : 1 ≤ ps.length := KdOk.pos (show KdOk (.plain pw) ps.length from ok.ok _ (List.mem_of_getElem? hn))
          have G := G.new (o := .tup [V.str "all", .str "race", .str "any", .str "sequence"]) nt
          have hl := same_new (o := .tup [V.str "all", .str "race", .str "any", .str "sequence"]) nt _ _ hl
          have sj := (Tp.same (same_new (o := .tup [V.str "all", .str "race", .str "any", .str "sequence"]) nt)).seq sj
          have sb := (Tp.same (same_new (o := .tup [V.str "all", .str "race", .str "any", .str "sequence"]) nt)).seq sb
          refine ⟨_, rfl, au, _, _, _, rfl, rfl, sj, rfl, ?_⟩
          refine ⟨_, rfl, au, _, _, _, rfl, rfl, sj, rfl, _, rfl, _, rfl, pb, _, rfl, sb, fun z => absurd z (cut_short pos), fun _ p1 np1 => ?_⟩
          obtain ⟨ns, ens, nsl⟩ := cut_ints (row := ps) (lo := none) (hi := some (-1))
          rw [ens]
          have G := G.new (o := .tup (ns.map V.int)) np1
          have hl := same_new (o := .tup (ns.map V.int)) np1 _ _ hl
          have sj := (Tp.same (same_new (o := .tup (ns.map V.int)) np1)).seq sj
          have sb := (Tp.same (same_new (o := .tup (ns.map V.int)) np1)).seq sb
          have s1 := made_tup (K := K) (xs := ns.map V.int) np1
          obtain ⟨pl, pz, epl⟩ : ∃ pl pz, ps = pl ++ [pz] := by
            rcases List.eq_nil_or_concat ps with e | ⟨L, z, e⟩
            · rw [e] at pos
              exact absurd pos (by decide)
            · exact ⟨L, z, by rw [e, List.concat_eq_append]⟩
          have last : atI (ps.map V.int) (-1) = some (.int pz) := by
            rw [epl, List.map_append]
            exact atI_last _ _
          refine ⟨_, rfl, au, _, _, _, rfl, rfl, sj, rfl, _, rfl, pb, _, _, _, rfl, rfl, sb, last, _, _, rfl, rfl, ?_⟩
          refine ⟨_, rfl, b, 2, rfl, G.B, by decide, fun r3 H4 r30 r31 B4 U4 => ?_⟩
          have hl := U4.k _ _ (G.B0.off G.e) hl
          have s1 := (Tp.but G.B U4).seq s1
          have G := G.but B4 U4
          refine ⟨_, _, rfl, rfl, .inl ⟨by decide, by decide⟩, _, _, rfl, rfl, one, fun t1 n1 => ?_⟩
          obtain ⟨y, hy⟩ : ∃ y : Int, pz + 1 - 2 * r3 = y := ⟨_, rfl⟩
          have G := G.new (o := .tup [V.int (pz + 1 - 2 * r3)]) n1
          have hl := same_new (o := .tup [V.int (pz + 1 - 2 * r3)]) n1 _ _ hl
          have s1 := (Tp.same (same_new (o := .tup [V.int (pz + 1 - 2 * r3)]) n1)).seq s1
          have s2 := made_tup (K := K) (xs := [V.int (pz + 1 - 2 * r3)]) n1
          refine ⟨p1, t1, _, _, rfl, rfl, s1, s2, ?_, fun e => ?_, fun _ e => (nomatch e), fun _ _ p3 np3 => ?_⟩
          · rw [List.length_map]
            have := OkN.few ok _ (List.mem_of_getElem? hn)
            have h6 : ps.length ≤ 6 := this
            exact Nat.le_of_lt (small_line (by show ns.length + 1 ≤ 4000; omega))
          · have e : ns = [] := List.map_eq_nil_iff.mp e
            have sc := sq_cast s2 (ys := (ns ++ [pz + 1 - 2 * r3]).map V.int) (by rw [e]; rfl)
            refine ⟨two, fun t2 n2 => ?_⟩
            have G := G.new (o := .tup [V.str pw.word, .ref t1]) n2
            have hl := same_new (o := .tup [V.str pw.word, .ref t1]) n2 _ _ hl
            have nv3 : NdsAt K _ vs2 N := let ⟨vs3, h3, nv3⟩ := G.n; by
              rw [hl] at h3
              cases h3
              exact nv3
            refine ⟨_, rfl, _, rfl, l, vs2, i, i, rfl, rfl, hl, (by rw [vl]; exact ixNat iN), _, rfl, G.put (nv3.set (n := .whole (.plain pw) (ns ++ [pz + 1 - 2 * r3])) ⟨t2, t1, rfl, SqT.of upd_same, (Tp.same (same_new n2)).seq sc⟩), ?_⟩
            rw [List.length_set]
            omega
          · have G := G.new (o := .tup (ns.map V.int ++ [V.int (pz + 1 - 2 * r3)])) np3
            have hl := same_new (o := .tup (ns.map V.int ++ [V.int (pz + 1 - 2 * r3)])) np3 _ _ hl
            have sc := sq_cast (made_tup (K := K) (xs := ns.map V.int ++ [V.int (pz + 1 - 2 * r3)]) np3) (ys := (ns ++ [pz + 1 - 2 * r3]).map V.int) (by rw [List.map_append]; rfl)
            refine ⟨two, fun t2 n2 => ?_⟩
            have G := G.new (o := .tup [V.str pw.word, .ref p3]) n2
            have hl := same_new (o := .tup [V.str pw.word, .ref p3]) n2 _ _ hl
            have nv3 : NdsAt K _ vs2 N := let ⟨vs3, h3, nv3⟩ := G.n; by
              rw [hl] at h3
              cases h3
              exact nv3
            refine ⟨_, rfl, _, rfl, l, vs2, i, i, rfl, rfl, hl, (by rw [vl]; exact ixNat iN), _, rfl, G.put (nv3.set (n := .whole (.plain pw) (ns ++ [pz + 1 - 2 * r3])) ⟨t2, p3, rfl, SqT.of upd_same, (Tp.same (same_new n2)).seq sc⟩), ?_⟩
            rw [List.length_set]
            omega
        · have G := G.new (o := .tup [V.str "all", .str "race", .str "any", .str "sequence"]) nt
          refine ⟨_, rfl, rfl, _, rfl, ite2 (fun c => absurd c (by decide)) (fun _ => iteF ?_)⟩
          refine ⟨_, rfl, _, _, rfl, rfl, _, rfl, ite2 (fun c => absurd c (by decide)) (fun _ => ?_)⟩
          exact ⟨_, rfl, G, by omega⟩
      refine ⟨_, rfl, rfl, _, rfl, ite2 (fun c => ?_) (fun _ => iteF ?_)⟩
      · -- a number at its bound
        have e : k = 5 := V.int.inj (of_decide_eq_true c)
        subst e
        obtain ⟨au, xs, rfl, su⟩ := nu.head
        refine ⟨_, rfl, au, _, _, _, rfl, rfl, su, atI_head, rfl, _, rfl, ite_str (fun e => ?_) (fun _ => ?_)⟩
        · obtain ⟨d, g, x, c, fo, rfl⟩ := of_job e
          refine ⟨_, rfl, _, rfl, b, _, d, g, x, c, fo, rfl, G.B, nu, fun u3 n3 H4 B4 U4 nu3 => ?_⟩
          have hl := U4.k _ _ (G.B0.off G.e) hl
          have G := G.but B4 U4
          have nv3 : NdsAt K H4 vs2 N := let ⟨vs3, h3, nv3⟩ := G.n; by
            rw [hl] at h3
            cases h3
            exact nv3
          refine ⟨_, rfl, _, rfl, l, vs2, i, i, rfl, rfl, hl, (by rw [vl]; exact ixNat iN), _, rfl, G.put (nv3.set nu3), ?_⟩
          rw [List.length_set]
          omega
        · refine ⟨_, rfl, _, _, rfl, rfl, _, rfl, ite2 (fun c => absurd c (by decide)) (fun _ => ?_)⟩
          exact ⟨_, rfl, G, by omega⟩
      refine ⟨_, rfl, _, _, rfl, rfl, _, rfl, ite2 (fun _ => ?_) (fun _ => ?_)⟩
      · refine ⟨_, rfl, b, rfl, G.B, fun v N' H4 h45 B4 U4 pa => ?_⟩
        exact q v N' H4 h45 B4 (G.U.trans U4) pa
      · exact ⟨_, rfl, G, by omega⟩
    · rintro σ H3 ⟨N', rfl, G, h45⟩
      obtain ⟨vs, hl, nv⟩ := G.n
      refine ⟨_, rfl, l, vs, rfl, .inl ⟨SqL.of hl, fun u nu => ?_⟩⟩
      exact q _ N' _ h45 (G.B.new nu) (G.U.new nu) ⟨u, vs, rfl, SqT.of upd_same, nv.tp (Tp.same (same_new nu))⟩
end
end LB

set_option maxRecDepth 100000
set_option maxHeartbeats 8000000
namespace LB
open PySem PySem.Spec PyProof.Rows L2
/-! ### data under what stays -/
theorem sqT_same {K : PySem.W.Frag} {H H' : Hp} {a : Addr} {xs : List V} (e : Same H H') (h : SqT K H a xs) : SqT K H' a xs := (Tp.same e).seq h
theorem sqL_same {K : PySem.W.Frag} {H H' : Hp} {a : Addr} {xs : List V} (e : Same H H') (h : SqL K H a xs) : SqL K H' a xs := by
  rcases h with (h | ⟨o, h⟩) | h
  · exact .inl (.inl (e _ _ h))
  · exact .inl (.inr ⟨o, e _ _ h⟩)
  · exact .inr h
mutual
theorem dp_same {K : PySem.W.Frag} {H H' : Hp} (e : Same H H') : ∀ {v : V} {d : PyData}, Dp K H v d → Dp K H' v d
  | _, _, .non => .non
  | _, _, .bl b => .bl b
  | _, _, .int i => .int i
  | _, _, .str x => .str x
  | _, _, .lst h r => .lst (sqL_same e h) (dpAll_same e r)
  | _, _, .tup h r => .tup (sqT_same e h) (dpAll_same e r)
theorem dpAll_same {K : PySem.W.Frag} {H H' : Hp} (e : Same H H') : ∀ {vs : List V} {ds : List PyData}, DpAll K H vs ds → DpAll K H' vs ds
  | _, _, .nil => .nil
  | _, _, .cons h r => .cons (dp_same e h) (dpAll_same e r)
end
theorem dpAll_app {K : PySem.W.Frag} {H : Hp} : ∀ {vs us : List V} {ds es : List PyData}, DpAll K H vs ds → DpAll K H us es → DpAll K H (vs ++ us) (ds ++ es)
  | _, _, _, _, .nil, g => g
  | _, _, _, _, .cons h r, g => .cons h (dpAll_app r g)
theorem dpAll_len {K : PySem.W.Frag} {H : Hp} : ∀ {vs : List V} {ds : List PyData}, DpAll K H vs ds → vs.length = ds.length
  | _, _, .nil => rfl
  | _, _, .cons _ r => congrArg (· + 1) (dpAll_len r)
/-! ### a plan's data -/
def dOpt : Option Int → PyData
  | none => .none
  | some x => .int x
def dNd : Nd → PyData
  | .job d g v c f => .tuple [.str "job", .int d, .str (if g then "gives" else "throws"), .int v, .int c, dOpt f]
  | .whole (.plain w) ps => .tuple [.str w.word, .tuple (ps.map .int)]
  | .whole (.pool n) ps => .tuple [.str "pool", .int n, .tuple (ps.map .int)]
  | .whole (.timeout t) ps => .tuple (.str "timeout" :: .int t :: ps.map .int)
  | .whole .orelse ps => .tuple (.str "orelse" :: ps.map .int)
  | .whole (.retry r d) ps => .tuple (.str "retry" :: .int r :: .int d :: ps.map .int)
theorem dp_opt {K : PySem.W.Frag} {H : Hp} (f : Option Int) : Dp K H (optV f) (dOpt f) := by
  cases f with
  | none => exact .non
  | some x => exact .int x
theorem NdAt.dp {K : PySem.W.Frag} {H : Hp} {v : V} {n : Nd} (h : NdAt K H v n) : Dp K H v (dNd n) := by
  match n, h with
  | .job d g x c f, ⟨a, e, q⟩ => rw [e]; exact .tup q (.cons (.str _) (.cons (.int _) (.cons (.str _) (.cons (.int _) (.cons (.int _) (.cons (dp_opt f) .nil))))))
  | .whole (.plain w) ps, ⟨a, b, e, q, r⟩ => rw [e]; exact .tup q (.cons (.str _) (.cons (.tup r dp_ints) .nil))
  | .whole (.pool n) ps, ⟨a, b, e, q, r⟩ => rw [e]; exact .tup q (.cons (.str _) (.cons (.int _) (.cons (.tup r dp_ints) .nil)))
  | .whole (.timeout t) ps, ⟨a, i, e0, e, q⟩ => rw [e, e0]; exact .tup q (.cons (.str _) (.cons (.int _) (.cons (.int _) .nil)))
  | .whole .orelse ps, ⟨a, i, j, e0, e, q⟩ => rw [e, e0]; exact .tup q (.cons (.str _) (.cons (.int _) (.cons (.int _) .nil)))
  | .whole (.retry r d) ps, ⟨a, i, e0, e, q⟩ => rw [e, e0]; exact .tup q (.cons (.str _) (.cons (.int _) (.cons (.int _) (.cons (.int _) .nil))))
theorem dp_nodes {K : PySem.W.Frag} {H : Hp} : ∀ {vs : List V} {N : List Nd}, NdsAt K H vs N → DpAll K H vs (N.map dNd)
  | [], [], _ => .nil
  | [], _ :: _, h => absurd h.len (by simp)
  | _ :: _, [], h => absurd h.len (by simp)
  | v :: vs, n :: N, h => by
    obtain ⟨u, m, h1, h2, h3⟩ := h.get (i := 0) (by simp)
    cases h1
    cases h2
    refine .cons h3.dp (dp_nodes ⟨Nat.succ.inj h.len, fun i m e => ?_⟩)
    exact h.at_ (i + 1) m e
theorem lay_words : PyData.canLay0 (.str "job") = true ∧ PyData.canLay0 (.str "gives") = true ∧ PyData.canLay0 (.str "throws") = true ∧ PyData.canLay0 (.str "pool") = true ∧ PyData.canLay0 (.str "timeout") = true ∧ PyData.canLay0 (.str "orelse") = true ∧ PyData.canLay0 (.str "retry") = true := by decide +kernel
theorem lay_pk (w : Pk) : PyData.canLay0 (.str w.word) = true := by cases w <;> decide +kernel
theorem lay_nd (n : Nd) : (dNd n).canLay0 = true ∧ (dNd n).depth ≤ 2 := by
  obtain ⟨h1, h2, h3, h4, h5, h6, h7⟩ := lay_words
  match n with
  | .job d g v c f =>
    have hg : PyData.canLay0 (.str (if g then "gives" else "throws")) = true := by cases g; exact h3; exact h2
    have hf : PyData.canLay0 (dOpt f) = true ∧ (dOpt f).depth = 0 := by cases f <;> exact ⟨rfl, rfl⟩
    refine ⟨?_, ?_⟩
    · show (PyData.canLay0 (.str "job") && (true && (PyData.canLay0 (.str (if g then "gives" else "throws")) && (true && (true && (PyData.canLay0 (dOpt f) && true)))))) = true
      rw [h1, hg, hf.1] <;> rfl
    · show max 0 (max 0 (max 0 (max 0 (max 0 (max (dOpt f).depth 0))))) + 1 ≤ 2
      rw [hf.2]
      decide
  | .whole (.plain w) ps =>
    refine ⟨?_, ?_⟩
    · show (PyData.canLay0 (.str w.word) && (PyData.canLayAll0 (ps.map PyData.int) && true)) = true
      rw [lay_pk, lay_ints] <;> rfl
    · show max 0 (max (PyData.depthAll (ps.map PyData.int) + 1) 0) + 1 ≤ 2
      rw [deep_ints]
      decide
  | .whole (.pool n) ps =>
    refine ⟨?_, ?_⟩
    · show (PyData.canLay0 (.str "pool") && (true && (PyData.canLayAll0 (ps.map PyData.int) && true))) = true
      rw [h4, lay_ints] <;> rfl
    · show max 0 (max 0 (max (PyData.depthAll (ps.map PyData.int) + 1) 0)) + 1 ≤ 2
      rw [deep_ints]
      decide
  | .whole (.timeout t) ps =>
    refine ⟨?_, ?_⟩
    · show (PyData.canLay0 (.str "timeout") && (true && PyData.canLayAll0 (ps.map PyData.int))) = true
      rw [h5, lay_ints] <;> rfl
    · show max 0 (max 0 (PyData.depthAll (ps.map PyData.int))) + 1 ≤ 2
      rw [deep_ints]
      decide
  | .whole .orelse ps =>
    refine ⟨?_, ?_⟩
    · show (PyData.canLay0 (.str "orelse") && PyData.canLayAll0 (ps.map PyData.int)) = true
      rw [h6, lay_ints] <;> rfl
    · show max 0 (PyData.depthAll (ps.map PyData.int)) + 1 ≤ 2
      rw [deep_ints]
      decide
  | .whole (.retry r d) ps =>
    refine ⟨?_, ?_⟩
    · show (PyData.canLay0 (.str "retry") && (true && (true && PyData.canLayAll0 (ps.map PyData.int)))) = true
      rw [h7, lay_ints] <;> rfl
    · show max 0 (max 0 (max 0 (PyData.depthAll (ps.map PyData.int)))) + 1 ≤ 2
      rw [deep_ints]
      decide
theorem lay_of {α : Type} {f : α → PyData} {k : Nat} (h : ∀ x, (f x).canLay0 = true ∧ (f x).depth ≤ k) : ∀ (N : List α), PyData.canLayAll0 (N.map f) = true ∧ PyData.depthAll (N.map f) ≤ k
  | [] => ⟨rfl, Nat.zero_le _⟩
  | n :: r => by
    obtain ⟨h1, h2⟩ := lay_of h r
    obtain ⟨h3, h4⟩ := h n
    refine ⟨?_, ?_⟩
    · show ((f n).canLay0 && PyData.canLayAll0 (r.map f)) = true
      rw [h1, h3] <;> rfl
    · show max (f n).depth (PyData.depthAll (r.map f)) ≤ k
      omega
theorem shaped_of {α : Type} {f : α → PyData} (h : ∀ x, (f x).canLay0 = true ∧ (f x).depth ≤ 2) (N : List α) : SeqAt.shaped (.tuple (N.map f)) = true ∧ SeqAt.shaped (.list (N.map f)) = true := by
  obtain ⟨h1, h2⟩ := lay_of h N
  constructor
  · show (PyData.canLayAll0 (N.map f) && decide (PyData.depthAll (N.map f) + 1 ≤ 64)) = true
    rw [h1, decide_eq_true (by omega)] <;> rfl
  · show (PyData.canLayAll0 (N.map f) && decide (PyData.depthAll (N.map f) + 1 ≤ 64)) = true
    rw [h1, decide_eq_true (by omega)] <;> rfl
theorem eqv_empty (N : List Nd) : PyData.eqv (.tuple (N.map dNd)) (.tuple []) = N.isEmpty := by
  cases N with
  | nil => rfl
  | cons n r => rfl
def dParts (n : Nd) : PyData := .tuple (n.parts.map .int)
theorem lay_parts (n : Nd) : (dParts n).canLay0 = true ∧ (dParts n).depth ≤ 2 := by
  refine ⟨lay_ints n.parts, ?_⟩
  show PyData.depthAll (n.parts.map PyData.int) + 1 ≤ 2
  rw [deep_ints]
  decide
theorem eqv_parts (N : List Nd) : PyData.eqv (.list (N.map dParts)) (.list (N.map dParts)) = true := SeqAt.eqv_refl _ (lay_of lay_parts N).1
def dRef : PyData := .tuple [.str "refused", .str "plan"]
theorem ref_facts : SeqAt.shaped dRef = true ∧ PyData.eqv dRef dRef = true ∧ SeqAt.shaped .none = true ∧ PyData.eqv .none .none = true ∧ SeqAt.shaped (.tuple []) = true := by decide +kernel
end LB

set_option maxRecDepth 100000
set_option maxHeartbeats 8000000
namespace LB
open PySem PySem.Spec PyProof.Rows L2
theorem not_good_nil : ¬ GoodN [] := fun g => by
  obtain ⟨i, h⟩ := g.one
  cases h
/-- values that are the nodes' parts as tuples -/
def PsAll (K : PySem.W.Frag) (H : Hp) : List V → List Nd → Prop
  | [], [] => True
  | v :: vs, n :: N => (∃ t, v = .ref t ∧ SqT K H t (n.parts.map V.int)) ∧ PsAll K H vs N
  | _, _ => False
theorem PsAll.tp {K : PySem.W.Frag} {H H' : Hp} (x : Tp H H') : ∀ {vs : List V} {N : List Nd}, PsAll K H vs N → PsAll K H' vs N
  | [], [], _ => trivial
  | _ :: _, _ :: _, ⟨⟨t, e, s⟩, r⟩ => ⟨⟨t, e, x.seq s⟩, PsAll.tp x r⟩
  | [], _ :: _, h => h.elim
  | _ :: _, [], h => h.elim
theorem PsAll.more {K : PySem.W.Frag} {H : Hp} {t : Addr} {n : Nd} (s : SqT K H t (n.parts.map V.int)) : ∀ {vs : List V} {N : List Nd}, PsAll K H vs N → PsAll K H (vs ++ [.ref t]) (N ++ [n])
  | [], [], _ => ⟨⟨t, rfl, s⟩, trivial⟩
  | _ :: _, _ :: _, ⟨h, r⟩ => ⟨h, PsAll.more s r⟩
  | [], _ :: _, h => h.elim
  | _ :: _, [], h => h.elim
theorem PsAll.dp {K : PySem.W.Frag} {H : Hp} : ∀ {vs : List V} {N : List Nd}, PsAll K H vs N → DpAll K H vs (N.map dParts)
  | [], [], _ => .nil
  | _ :: _, _ :: _, ⟨⟨t, e, s⟩, r⟩ => .cons (by rw [e]; exact .tup s dp_ints) (PsAll.dp r)
  | [], _ :: _, h => h.elim
  | _ :: _, [], h => h.elim
theorem PsAll.len {K : PySem.W.Frag} {H : Hp} {vs : List V} {N : List Nd} (h : PsAll K H vs N) : vs.length = N.length := by
  have := dpAll_len h.dp
  rw [List.length_map] at this
  exact this
def spLaw (K : PySem.W.Frag) : Sp := fun vs H Q _ => ∃ (a : Addr) (ns : List Int), vs = [.ref a] ∧ SqL K H a (ns.map V.int) ∧ ∀ H', Q (.bl true) H'
/-- the defs that law calls, as they stand -/
structure Defs (K : PySem.W.Frag) (mg : Str → Option Value) (base : Heap) (P : Program) (w : World) : Prop where
  G : ∃ f fd, FnOk P w K mg base CX0 2 f fd ["script", "first", "last"] (spDigits K) ∧ mg "_law_digits" = some (.ref f) ∧ PySem.W.keepIn K (.ref f) = true ∧ Binds K fd ["script", "first", "last"] []
  Pl : ∃ f fd, FnOk P w K mg base CX0 3 f fd ["box", "jobs"] (spPlan K) ∧ mg "_law_plan" = some (.ref f) ∧ PySem.W.keepIn K (.ref f) = true ∧ Binds K fd ["box", "jobs"] []
  S : ∃ f fd, FnOk P w K mg base CX0 3 f fd ["box", "plan"] (spLSpoil K) ∧ mg "_law_spoil" = some (.ref f) ∧ PySem.W.keepIn K (.ref f) = true ∧ Binds K fd ["box", "plan"] []
  O : ∃ f fd, FnOk P w K mg base CX0 3 f fd ["plan"] (spLGood K) ∧ mg "_law_good" = some (.ref f) ∧ PySem.W.keepIn K (.ref f) = true ∧ Binds K fd ["plan"] []
  R : ∃ f fd, FnOk P w K mg base CX0 6 f fd ["plan"] (spLRefused K) ∧ mg "_law_refused" = some (.ref f) ∧ PySem.W.keepIn K (.ref f) = true ∧ Binds K fd ["plan"] []
  Pa : ∃ f fd, FnOk P w K mg base CX0 1 f fd ["node"] (spParts K) ∧ mg "parts_of" = some (.ref f) ∧ PySem.W.keepIn K (.ref f) = true ∧ Binds K fd ["node"] []
  Lp : ∃ f fd, FnOk P w K mg base CX0 1 f fd ["node"] (spParts K) ∧ mg "_law_parts" = some (.ref f) ∧ PySem.W.keepIn K (.ref f) = true ∧ Binds K fd ["node"] []
  names : NamesQ mg
  cons : Cons mg
section
variable {P : Program} {w : World} {K : PySem.W.Frag} {mg : Str → Option Value} {base : Heap}
theorem scLaw : FnScope ["script", "box", "turn", "plan", "good", "due", "node"] ["script"] (defScope sLaw) := ⟨rfl, rfl, rfl, by decide +kernel, rfl, by decide +kernel, by decide +kernel⟩
theorem ok_law {f : Addr} {fd : FuncData} (F : Fun K "law" "law" sLaw f fd) (T : Defs K mg base P w) : FnOk P w K mg base CX0 7 f fd ["script"] (spLaw K) := by
  obtain ⟨_, _, GG, mG, kG, bG⟩ := T.G
  obtain ⟨_, _, GP, mP, kP, bP⟩ := T.Pl
  obtain ⟨_, _, GS, mS, kS, bS⟩ := T.S
  obtain ⟨_, _, GO, mO, kO, bO⟩ := T.O
  obtain ⟨_, _, GR, mR, kR, bR⟩ := T.R
  obtain ⟨_, _, GA, mA, kA, bA⟩ := T.Pa
  obtain ⟨_, _, GB, mB, kB, bB⟩ := T.Lp
  obtain ⟨nt, nm⟩ := T.cons.nm
  obtain ⟨dt, dm⟩ := T.cons.dm
  obtain ⟨rt, rm⟩ := T.cons.rm
  obtain ⟨pt, pm⟩ := T.cons.pm
  have M := T.names
  obtain ⟨sr, er, sn, en, se⟩ := ref_facts
  refine F.ok scLaw (fun vs H Q E h => ?_) (fun cdv A outer s H vs Q E hr h => ?_)
  · obtain ⟨a, ns, rfl, _⟩ := h
    rfl
  · obtain ⟨a, ns, rfl, hS, q⟩ := h
    have nd := scLaw.nd
    have zero : (0 : Nat) ≤ sizeLine := by decide
    have two : (2 : Nat) ≤ sizeLine := by decide
    have four : (4 : Nat) ≤ sizeLine := by decide
    refine ⟨_, (pss_cons (ps_set (i := 1) nd rfl (Or.inl rfl) (pe_lst (pa_cons (pe_call GG (hr.mono (by decide)) rfl mG kG bG .nil pass0 (pa_cons (pv 0) (pa_cons pe_int (pa_cons pe_int pa_nil)))) (pa_cons pe_int pa_nil))))
        (pss_cons (ps_if (PW.pt (pw_or (pt_cmpR (op_neD hr.units) (pe_tup (pa_cons (pe_glob (v := .int 40) rfl nm ⟨_, rfl⟩) (pa_cons (pe_glob (v := .int 8) rfl dm ⟨_, rfl⟩) (pa_cons (pe_glob (v := .int 60) rfl rm ⟨_, rfl⟩) (pa_cons (pe_glob (v := .int 6) rfl pm ⟨_, rfl⟩) pa_nil))))) (pe_tup (pa_cons pe_int (pa_cons pe_int (pa_cons pe_int (pa_cons pe_int pa_nil))))) (nomark _)) (pw_or1 (pt_cmpR (op_neD hr.units) (pe_call GR (hr.mono (by decide)) rfl mR kR bR .nil pass0 (pa_cons (pe_tup pa_nil) pa_nil)) (pe_tup (pa_cons pe_str (pa_cons pe_str pa_nil))) (nomark _))))) (pss_one (ps_ret pe_bl)) pss_nil)
        (pss_cons (ps_for PassesOwn.never rfl (pi_range1 (by rfl) M.range (pa_cons pe_int pa_nil)) (pg_name (i := 2) nd rfl (Or.inl rfl)) (pss_cons (ps_set (i := 3) nd rfl (Or.inl rfl) (pe_call GS (hr.mono (by decide)) rfl mS kS bS .nil pass0 (pa_cons (pv 1) (pa_cons (pe_call GP (hr.mono (by decide)) rfl mP kP bP .nil pass0 (pa_cons (pv 1) (pa_cons pe_int pa_nil))) pa_nil))))
        (C8.pss_cut (ps_set (i := 4) nd rfl (Or.inl rfl) (pe_and (pe_cmpR (op_neD hr.units) (pv 3) (pe_tup pa_nil) (nomark _)) (pe_one (pe_call GO (hr.mono (by decide)) rfl mO kO bO .nil pass0 (pa_cons (pv 3) pa_nil)))))
        (pss_cons (ps_set (i := 5) nd rfl (Or.inl rfl) (pe_tup (pa_cons pe_str (pa_cons pe_str pa_nil))))
        (C8.pss_cut (ps_if (pt_val (pv 4)) (pss_one (ps_set (i := 5) nd rfl (Or.inl rfl) pe_non)) pss_nil)
        (pss_cons (ps_if (pt_cmpR (op_neD hr.units) (pe_call GR (hr.mono (by decide)) rfl mR kR bR .nil pass0 (pa_cons (pv 3) pa_nil)) (pv 5) (nomark _)) (pss_one (ps_ret pe_bl)) pss_nil)
        (pss_one (ps_if (PW.pt (pw_and (pt_val (pv 4)) (pw_and1 (pt_cmpR (op_neD hr.units) (pe_lc (own := [("node", 6)]) (g := (gName 6)) rfl nd (pi_tup (pv 3)) (blkOk_by (N := ["script", "box", "turn", "plan", "good", "due", "node"]) (sc := (defScope sLaw)) (by decide +kernel)) (fun _ _ _ _ _ => (pg_name (i := 6) nd rfl (Or.inl rfl))) (fun _ _ _ _ _ => pts_nil) (fun _ _ _ _ _ => (pe_call GA (hr.mono (by decide)) rfl mA kA bA .nil pass0 (pa_cons (pv 6) pa_nil)))) (pe_lc (own := [("node", 6)]) (g := (gName 6)) rfl nd (pi_tup (pv 3)) (blkOk_by (N := ["script", "box", "turn", "plan", "good", "due", "node"]) (sc := (defScope sLaw)) (by decide +kernel)) (fun _ _ _ _ _ => (pg_name (i := 6) nd rfl (Or.inl rfl))) (fun _ _ _ _ _ => pts_nil) (fun _ _ _ _ _ => (pe_call GB (hr.mono (by decide)) rfl mB kB bB .nil pass0 (pa_cons (pv 6) pa_nil)))) (nomark _))))) (pss_one (ps_ret pe_bl)) pss_nil))))))))
        (pss_one (ps_ret pe_bl))))), ?_⟩
    refine ⟨_, rfl, a, ns, 0, 63, rfl, hS, by decide, by decide, by decide, fun ds H1 l s1 nl hl hd hlen => ⟨two, fun b nb => ?_⟩⟩
    have B0 : Box (upd H1 b (.lst [.ref l, .int 0])) b := ⟨l, ds, 0, upd_same, by rw [upd_ne (ne_of_none hl nb)]; exact hl, (ne_of_none hl nb).symm, by decide, hlen⟩
    generalize upd H1 b (.lst [.ref l, .int 0]) = H2 at B0
    clear s1 nl hl hd nb
    -- the bounds by their names
    refine ⟨four, fun t1 n1 => ⟨four, fun t2 n2 => ?_⟩⟩
    have S2 := same_new (o := .tup [V.int 40, .int 8, .int 60, .int 6]) n2
    refine ⟨.tuple ([40, 8, 60, 6].map PyData.int), .tuple ([40, 8, 60, 6].map PyData.int), .tup (SqT.of (S2 _ _ upd_same)) (dp_ints (ns := [40, 8, 60, 6])), .tup (SqT.of upd_same) (dp_ints (ns := [40, 8, 60, 6])), shaped_tup _, shaped_tup _, ?_⟩
    rw [eqv_tups]
    refine ⟨_, rfl, iteF ?_⟩
    have S1 := (same_new (o := .tup [V.int 40, .int 8, .int 60, .int 6]) n1).trans S2
    have B1 := B0.same S1
    -- the empty row
    refine ⟨zero, fun t3 n3 => ?_⟩
    refine ⟨.ref t3, [], rfl, ⟨t3, [], rfl, SqT.of upd_same, .nil⟩, (by show 0 ≤ 45; decide), fun g => absurd g not_good_nil, fun _ t4 H4 S4 h4 => ?_⟩
    refine ⟨two, fun t5 n5 => ?_⟩
    have S5 := same_new (o := .tup [V.str "refused", .str "plan"]) n5
    refine ⟨dRef, dRef, .tup (SqT.of (S5 _ _ h4)) (.cons (.str _) (.cons (.str _) .nil)), .tup (SqT.of upd_same) (.cons (.str _) (.cons (.str _) .nil)), sr, sr, ?_⟩
    rw [er]
    refine ⟨_, rfl, iteF ?_⟩
    have B5 := ((B1.new (o := .tup []) n3).same S4).same S5
    refine ⟨6, rfl, by decide, by decide, for_range (n := 6) (fun m σ H' => ∃ (v2 v3 v4 v5 : Option V), σ = [some (.ref a), some (.ref b), v2, v3, v4, v5, none] ∧ Box H' b)
      ⟨none, none, none, none, rfl, B5⟩ ?_ ?_⟩
    · rintro m σ H0 hm ⟨v2, v3, v4, v5, rfl, B0⟩
      refine ⟨_, rfl, _, rfl, b, 10, rfl, B0, by decide, by decide, fun v p H1 wp B1 U1 pa => ?_⟩
      have ok : OkN (p.flat 0) := ⟨flat_back p 0, flat_ok p 0 wp.ok, by rw [flat_length]; exact wp.size⟩
      refine ⟨b, v, p.flat 0, rfl, B1, pa, ok, (by rw [flat_length]; exact size_pos p), fun v N H2 l45 B2 U2 pa => ?_⟩
      obtain ⟨pl, vs, rfl, sq, nv⟩ := pa
      -- good
      refine ⟨fun σ H' => ∃ g : Bool, σ = [some (.ref a), some (.ref b), some (.int (0 + m)), some (.ref pl), some (.bl g), v5, none] ∧ Same H2 H' ∧ (g = true ↔ GoodN N), ?_, ?_⟩
      · refine ⟨_, rfl, zero, fun t nt => ?_⟩
        have S := same_new (o := .tup []) nt
        refine ⟨.tuple (N.map dNd), .tuple [], .tup (sqT_same S sq) (dp_nodes (nv.tp (Tp.same S))), .tup (SqT.of upd_same) .nil, (shaped_of lay_nd N).1, se, ?_⟩
        rw [eqv_empty]
        refine ⟨_, rfl, ite2 (fun c => ?_) (fun c => ?_)⟩
        · exact ⟨_, rfl, _, N, rfl, ⟨pl, vs, rfl, sqT_same S sq, nv.tp (Tp.same S)⟩, l45, fun g H3 S3 hg => ⟨g, rfl, S.trans S3, hg⟩⟩
        · refine ⟨false, rfl, S, fun z => Bool.noConfusion z, fun g => ?_⟩
          exfalso
          have e : N = [] := by
            cases N with
            | nil => rfl
            | cons n r => exact absurd rfl c
          rw [e] at g
          exact not_good_nil g
      rintro σ H3 ⟨g, rfl, S3, hg⟩
      have sq3 := sqT_same S3 sq
      have nv3 := nv.tp (Tp.same S3)
      have B3 := B2.same S3
      -- due
      refine ⟨two, fun t nt => ?_⟩
      have S := same_new (o := .tup [V.str "refused", .str "plan"]) nt
      refine ⟨fun σ H' => ∃ (dv : V) (dd : PyData), σ = [some (.ref a), some (.ref b), some (.int (0 + m)), some (.ref pl), some (.bl g), some dv, none] ∧ Same H3 H' ∧ Dp K H' dv dd ∧ SeqAt.shaped dd = true ∧ (g = true → dd = .none) ∧ (g = false → dd = dRef), ?_, ?_⟩
      · refine ⟨_, rfl, g, rfl, ite2 (fun c => ?_) (fun c => ?_)⟩
        · exact ⟨_, .none, rfl, S, .non, sn, fun _ => rfl, fun z => by rw [c] at z; cases z⟩
        · exact ⟨_, dRef, rfl, S, .tup (SqT.of upd_same) (.cons (.str _) (.cons (.str _) .nil)), sr, fun z => absurd z c, fun _ => rfl⟩
      rintro σ H4 ⟨dv, dd, rfl, S4, hdv, hds, d1, d2⟩
      have sq4 := sqT_same S4 sq3
      have nv4 := nv3.tp (Tp.same S4)
      have B4 := B3.same S4
      -- what is refused
      refine ⟨_, rfl, _, N, rfl, ⟨pl, vs, rfl, sq4, nv4⟩, l45, fun gd H5 S5 => ?_, fun bd t5 H5 S5 h5 => ?_⟩
      · have g1 : g = true := hg.mpr gd
        have e := d1 g1
        subst e
        refine ⟨_, rfl, .none, .none, .non, dp_same S5 hdv, sn, sn, ?_⟩
        rw [en]
        refine ⟨_, rfl, iteF ?_⟩
        have sq5 := sqT_same S5 sq4
        have nv5 := nv4.tp (Tp.same S5)
        have B5 := B4.same S5
        -- the parts
        refine ⟨_, rfl, g, rfl, ite2 (fun _ => ?_) (fun _ => iteF ⟨_, _, _, _, rfl, B5⟩)⟩
        refine ⟨_, rfl, pl, rfl, ⟨_, sq5⟩, fun D nD => ?_⟩
        refine lc_tup (xs := vs) (fun j H' => Same H5 H' ∧ ∃ us, H' D = some (.lst us) ∧ PsAll K H' us (N.take j))
          ⟨same_new nD, [], upd_same, trivial⟩ (fun j H' _ h => sqT_same h.1 sq5) ?_ ?_
        · rintro j x H6 hx ⟨S6, us, hD, du⟩
          have jN : j < N.length := by rw [← nv.len]; exact (List.getElem?_eq_some_iff.mp hx).1
          obtain ⟨u', hu', nu⟩ := nv5.at_ j N[j] (List.getElem?_eq_getElem jN)
          cases hx.symm.trans hu'
          refine ⟨rfl, _, rfl, x, N[j], rfl, nu.tp (Tp.same S6), fun t H7 S7 sT => ⟨us, S7 _ _ hD, ?_, same_upd (S6.trans S7) nD, us ++ [.ref t], upd_same, ?_⟩⟩
          · rw [du.len, List.length_take]
            exact small_line (by omega)
          · rw [take_succ (List.getElem?_eq_getElem jN)]
            exact ((du.tp (Tp.same S7)).more sT).tp (Tp.lst (S7 _ _ hD))
        rintro H6 ⟨S6, us, hD, du⟩
        rw [nv.len, List.take_length] at du
        have sq6 := sqT_same S6 sq5
        have nv6 := nv5.tp (Tp.same S6)
        have B6 := B5.same S6
        refine ⟨_, rfl, pl, rfl, ⟨_, sq6⟩, fun D2 nD2 => ?_⟩
        refine lc_tup (xs := vs) (fun j H' => Same H6 H' ∧ ∃ us, H' D2 = some (.lst us) ∧ PsAll K H' us (N.take j))
          ⟨same_new nD2, [], upd_same, trivial⟩ (fun j H' _ h => sqT_same h.1 sq6) ?_ ?_
        · rintro j x H8 hx ⟨S8, us2, hD2, du2⟩
          have jN : j < N.length := by rw [← nv.len]; exact (List.getElem?_eq_some_iff.mp hx).1
          obtain ⟨u', hu', nu⟩ := nv6.at_ j N[j] (List.getElem?_eq_getElem jN)
          cases hx.symm.trans hu'
          refine ⟨rfl, _, rfl, x, N[j], rfl, nu.tp (Tp.same S8), fun t H7 S7 sT => ⟨us2, S7 _ _ hD2, ?_, same_upd (S8.trans S7) nD2, us2 ++ [.ref t], upd_same, ?_⟩⟩
          · rw [du2.len, List.length_take]
            exact small_line (by omega)
          · rw [take_succ (List.getElem?_eq_getElem jN)]
            exact ((du2.tp (Tp.same S7)).more sT).tp (Tp.lst (S7 _ _ hD2))
        rintro H7 ⟨S7, us2, hD2, du2⟩
        rw [nv.len, List.take_length] at du2
        refine ⟨.list (N.map dParts), .list (N.map dParts), .lst (SqL.of (S7 _ _ hD)) (du.tp (Tp.same S7)).dp, .lst (SqL.of hD2) du2.dp, (shaped_of lay_parts N).2, (shaped_of lay_parts N).2, ?_⟩
        rw [eqv_parts]
        exact ⟨_, rfl, iteF ⟨_, _, _, _, rfl, B6.same S7⟩⟩
      · have g1 : g = false := by
          cases g with
          | false => rfl
          | true => exact absurd (hg.mp rfl) bd
        have e := d2 g1
        subst e
        refine ⟨_, rfl, dRef, dRef, .tup (SqT.of h5) (.cons (.str _) (.cons (.str _) .nil)), dp_same S5 hdv, sr, sr, ?_⟩
        rw [er]
        refine ⟨_, rfl, iteF ?_⟩
        refine ⟨_, rfl, g, rfl, ite2 (fun c => ?_) (fun _ => iteF ⟨_, _, _, _, rfl, B4.same S5⟩)⟩
        rw [g1] at c
        cases c
    · rintro σ H2 ⟨v2, v3, v4, v5, rfl, B2⟩
      exact q _
end
end LB

set_option maxRecDepth 100000
set_option maxHeartbeats 8000000
namespace LB
open PySem PySem.Spec PyProof.Rows L2
open PySem.W (nsIn findIn subIn typeIn mroIn keepIn codeIn hasDictIn isClsIn specialIn takesIn)
theorem sq_k {K : PySem.W.Frag} {a : Addr} {o : Option Addr} {its : Array Value} {k : Nat} {sl : Array (Option Value)} {xs : List V} (h : K.lookup a = some ⟨.type "tuple", o, .seq its k, sl⟩) (sz : its.size ≤ sizeLine) (v : Vals xs its.toList) : ∀ H, SqT K H a xs := fun H => .inr ⟨_, its, k, h, rfl, rfl, sz, v⟩
/-- the law's def keeps its promise, from what the top has written -/
theorem all_mk {l : PySem.W.OpenLaw} {w : World} {K : PySem.W.Frag} {h : Heap} {mg : Str → Option Value} {fa : Addr} (X : K.In h) (G : h.Ns mainGlobals mg) (hfa : mg "law" = some (.ref fa))
    {fCell fDig fDr fJo fWh fPl fLp fSi fLb fGo fLn fLl fSp fRe fPa fCp fIp fIn fNu fFa fAp fOr fDe fJr fTi fLw C fI cc cda N0 B dL dN r_job r_job0 r_job1 r_job2 r_all r_race r_any r_pool r_pool0 r_timeout r_timeout0 r_sequence r_orelse r_retry r_retry0 r_retry1 : Addr} {odCell anCell odDig anDig odDr anDr odJo anJo odWh anWh odPl anPl odLp anLp odSi anSi odLb anLb odGo anGo odLn anLn odLl anLl odSp anSp odRe anRe odPa anPa odCp anCp odIp anIp odIn anIn odNu anNu odFa anFa odAp anAp odOr anOr odDe anDe odJr anJr odTi anTi odLw anLw odI anI ocd cdd o_job o_job0 o_job1 o_job2 o_all o_race o_any o_pool o_pool0 o_timeout o_timeout0 o_sequence o_orelse o_retry o_retry0 o_retry1 : Option Addr} {slCell slDig slDr slJo slWh slPl slLp slSi slLb slGo slLn slLl slSp slRe slPa slCp slIp slIn slNu slFa slAp slOr slDe slJr slTi slLw slI csl ccs s_job s_job0 s_job1 s_job2 s_all s_race s_any s_pool s_pool0 s_timeout s_timeout0 s_sequence s_orelse s_retry s_retry0 s_retry1 : Array (Option Value)} {ocCell kVCell dcCell pmCell cdCell ctCell ocDig kVDig dcDig pmDig cdDig ctDig ocDr kVDr dcDr pmDr cdDr ctDr ocJo kVJo dcJo pmJo cdJo ctJo ocWh kVWh dcWh pmWh cdWh ctWh ocPl kVPl dcPl pmPl cdPl ctPl ocLp kVLp dcLp pmLp cdLp ctLp ocSi kVSi dcSi pmSi cdSi ctSi ocLb kVLb dcLb pmLb cdLb ctLb ocGo kVGo dcGo pmGo cdGo ctGo ocLn kVLn dcLn pmLn cdLn ctLn ocLl kVLl dcLl pmLl cdLl ctLl ocSp kVSp dcSp pmSp cdSp ctSp ocRe kVRe dcRe pmRe cdRe ctRe ocPa kVPa dcPa pmPa cdPa ctPa ocCp kVCp dcCp pmCp cdCp ctCp ocIp kVIp dcIp pmIp cdIp ctIp ocIn kVIn dcIn pmIn cdIn ctIn ocNu kVNu dcNu pmNu cdNu ctNu ocFa kVFa dcFa pmFa cdFa ctFa ocAp kVAp dcAp pmAp cdAp ctAp ocOr kVOr dcOr pmOr cdOr ctOr ocDe kVDe dcDe pmDe cdDe ctDe ocJr kVJr dcJr pmJr cdJr ctJr ocTi kVTi dcTi pmTi cdTi ctTi ocLw kVLw dcLw pmLw cdLw ctLw ocI dcI pmI ctI clc ccl : Value}
    {nm qn file : Str} {bs : List Value} {sn : List Str} {sub : List Value} {ab : Bool} {col : Option Bool} {dd : Option Addr} {m0 m1 m2 m3 m5 : Option Value} {vs : Array Value} {tf tc0 tc1 tc2 tc3 tc4 tl_job t_job0a t_job0b t_job0c t_job1a t_job1b t_job1c t_job2a t_job2b t_job2c tl_all tl_race tl_any tl_pool t_pool0a t_pool0b t_pool0c tl_timeout t_timeout0a t_timeout0b t_timeout0c tl_sequence tl_orelse tl_retry t_retry0a t_retry0b t_retry0c t_retry1a t_retry1b t_retry1c : Tok} {nL nN n_job n_job0 n_job1 n_job2 n_all n_race n_any n_pool n_pool0 n_timeout n_timeout0 n_sequence n_orelse n_retry n_retry0 n_retry1 : Nat} {esL esN : Array DictEntry}
    (aCell : nsIn K mainGlobals "_law_cell" = some (some (.ref fCell)))
    (lCell : K.lookup fCell = some ⟨ocCell, odCell, .func (PySem.W.fnOf "_law_cell" "_law_cell" (defArgs sCell) (defBody sCell) (defScope sCell) .none kVCell dcCell pmCell anCell cdCell ctCell), slCell⟩)
    (cCell : codeIn K cdCell "_law_cell" = true)
    (kCell : keepIn K (.ref fCell) = true)
    (aDig : nsIn K mainGlobals "_law_digits" = some (some (.ref fDig)))
    (lDig : K.lookup fDig = some ⟨ocDig, odDig, .func (PySem.W.fnOf "_law_digits" "_law_digits" (defArgs sDigits) (defBody sDigits) (defScope sDigits) .none kVDig dcDig pmDig anDig cdDig ctDig), slDig⟩)
    (cDig : codeIn K cdDig "_law_digits" = true)
    (kDig : keepIn K (.ref fDig) = true)
    (aDr : nsIn K mainGlobals "_law_draw" = some (some (.ref fDr)))
    (lDr : K.lookup fDr = some ⟨ocDr, odDr, .func (PySem.W.fnOf "_law_draw" "_law_draw" (defArgs sDraw) (defBody sDraw) (defScope sDraw) .none kVDr dcDr pmDr anDr cdDr ctDr), slDr⟩)
    (cDr : codeIn K cdDr "_law_draw" = true)
    (kDr : keepIn K (.ref fDr) = true)
    (aJo : nsIn K mainGlobals "_law_job" = some (some (.ref fJo)))
    (lJo : K.lookup fJo = some ⟨ocJo, odJo, .func (PySem.W.fnOf "_law_job" "_law_job" (defArgs sJob) (defBody sJob) (defScope sJob) .none kVJo dcJo pmJo anJo cdJo ctJo), slJo⟩)
    (cJo : codeIn K cdJo "_law_job" = true)
    (kJo : keepIn K (.ref fJo) = true)
    (aWh : nsIn K mainGlobals "_law_whole" = some (some (.ref fWh)))
    (lWh : K.lookup fWh = some ⟨ocWh, odWh, .func (PySem.W.fnOf "_law_whole" "_law_whole" (defArgs sWhole) (defBody sWhole) (defScope sWhole) .none kVWh dcWh pmWh anWh cdWh ctWh), slWh⟩)
    (cWh : codeIn K cdWh "_law_whole" = true)
    (kWh : keepIn K (.ref fWh) = true)
    (aPl : nsIn K mainGlobals "_law_plan" = some (some (.ref fPl)))
    (lPl : K.lookup fPl = some ⟨ocPl, odPl, .func (PySem.W.fnOf "_law_plan" "_law_plan" (defArgs sPlan) (defBody sPlan) (defScope sPlan) .none kVPl dcPl pmPl anPl cdPl ctPl), slPl⟩)
    (cPl : codeIn K cdPl "_law_plan" = true)
    (kPl : keepIn K (.ref fPl) = true)
    (aLp : nsIn K mainGlobals "_law_parts" = some (some (.ref fLp)))
    (lLp : K.lookup fLp = some ⟨ocLp, odLp, .func (PySem.W.fnOf "_law_parts" "_law_parts" (defArgs sLParts) (defBody sLParts) (defScope sLParts) .none kVLp dcLp pmLp anLp cdLp ctLp), slLp⟩)
    (cLp : codeIn K cdLp "_law_parts" = true)
    (kLp : keepIn K (.ref fLp) = true)
    (aSi : nsIn K mainGlobals "_law_sizes" = some (some (.ref fSi)))
    (lSi : K.lookup fSi = some ⟨ocSi, odSi, .func (PySem.W.fnOf "_law_sizes" "_law_sizes" (defArgs sLSizes) (defBody sLSizes) (defScope sLSizes) .none kVSi dcSi pmSi anSi cdSi ctSi), slSi⟩)
    (cSi : codeIn K cdSi "_law_sizes" = true)
    (kSi : keepIn K (.ref fSi) = true)
    (aLb : nsIn K mainGlobals "_law_bounds" = some (some (.ref fLb)))
    (lLb : K.lookup fLb = some ⟨ocLb, odLb, .func (PySem.W.fnOf "_law_bounds" "_law_bounds" (defArgs sLBounds) (defBody sLBounds) (defScope sLBounds) .none kVLb dcLb pmLb anLb cdLb ctLb), slLb⟩)
    (cLb : codeIn K cdLb "_law_bounds" = true)
    (kLb : keepIn K (.ref fLb) = true)
    (aGo : nsIn K mainGlobals "_law_good" = some (some (.ref fGo)))
    (lGo : K.lookup fGo = some ⟨ocGo, odGo, .func (PySem.W.fnOf "_law_good" "_law_good" (defArgs sLGood) (defBody sLGood) (defScope sLGood) .none kVGo dcGo pmGo anGo cdGo ctGo), slGo⟩)
    (cGo : codeIn K cdGo "_law_good" = true)
    (kGo : keepIn K (.ref fGo) = true)
    (aLn : nsIn K mainGlobals "_law_number" = some (some (.ref fLn)))
    (lLn : K.lookup fLn = some ⟨ocLn, odLn, .func (PySem.W.fnOf "_law_number" "_law_number" (defArgs sLNumber) (defBody sLNumber) (defScope sLNumber) .none kVLn dcLn pmLn anLn cdLn ctLn), slLn⟩)
    (cLn : codeIn K cdLn "_law_number" = true)
    (kLn : keepIn K (.ref fLn) = true)
    (aLl : nsIn K mainGlobals "_law_long" = some (some (.ref fLl)))
    (lLl : K.lookup fLl = some ⟨ocLl, odLl, .func (PySem.W.fnOf "_law_long" "_law_long" (defArgs sLLong) (defBody sLLong) (defScope sLLong) .none kVLl dcLl pmLl anLl cdLl ctLl), slLl⟩)
    (cLl : codeIn K cdLl "_law_long" = true)
    (kLl : keepIn K (.ref fLl) = true)
    (aSp : nsIn K mainGlobals "_law_spoil" = some (some (.ref fSp)))
    (lSp : K.lookup fSp = some ⟨ocSp, odSp, .func (PySem.W.fnOf "_law_spoil" "_law_spoil" (defArgs sLSpoil) (defBody sLSpoil) (defScope sLSpoil) .none kVSp dcSp pmSp anSp cdSp ctSp), slSp⟩)
    (cSp : codeIn K cdSp "_law_spoil" = true)
    (kSp : keepIn K (.ref fSp) = true)
    (aRe : nsIn K mainGlobals "_law_refused" = some (some (.ref fRe)))
    (lRe : K.lookup fRe = some ⟨ocRe, odRe, .func (PySem.W.fnOf "_law_refused" "_law_refused" (defArgs sLRefused) (defBody sLRefused) (defScope sLRefused) .none kVRe dcRe pmRe anRe cdRe ctRe), slRe⟩)
    (cRe : codeIn K cdRe "_law_refused" = true)
    (kRe : keepIn K (.ref fRe) = true)
    (aPa : nsIn K mainGlobals "parts_of" = some (some (.ref fPa)))
    (lPa : K.lookup fPa = some ⟨ocPa, odPa, .func (PySem.W.fnOf "parts_of" "parts_of" (defArgs sParts) (defBody sParts) (defScope sParts) .none kVPa dcPa pmPa anPa cdPa ctPa), slPa⟩)
    (cPa : codeIn K cdPa "parts_of" = true)
    (kPa : keepIn K (.ref fPa) = true)
    (aCp : nsIn K mainGlobals "check_plan" = some (some (.ref fCp)))
    (lCp : K.lookup fCp = some ⟨ocCp, odCp, .func (PySem.W.fnOf "check_plan" "check_plan" (defArgs sCheckP) (defBody sCheckP) (defScope sCheckP) .none kVCp dcCp pmCp anCp cdCp ctCp), slCp⟩)
    (cCp : codeIn K cdCp "check_plan" = true)
    (kCp : keepIn K (.ref fCp) = true)
    (aIp : nsIn K mainGlobals "is_plan" = some (some (.ref fIp)))
    (lIp : K.lookup fIp = some ⟨ocIp, odIp, .func (PySem.W.fnOf "is_plan" "is_plan" (defArgs sIsPlan) (defBody sIsPlan) (defScope sIsPlan) .none kVIp dcIp pmIp anIp cdIp ctIp), slIp⟩)
    (cIp : codeIn K cdIp "is_plan" = true)
    (kIp : keepIn K (.ref fIp) = true)
    (aIn : nsIn K mainGlobals "is_node" = some (some (.ref fIn)))
    (lIn : K.lookup fIn = some ⟨ocIn, odIn, .func (PySem.W.fnOf "is_node" "is_node" (defArgs sIsNode) (defBody sIsNode) (defScope sIsNode) .none kVIn dcIn pmIn anIn cdIn ctIn), slIn⟩)
    (cIn : codeIn K cdIn "is_node" = true)
    (kIn : keepIn K (.ref fIn) = true)
    (aNu : nsIn K mainGlobals "is_number" = some (some (.ref fNu)))
    (lNu : K.lookup fNu = some ⟨ocNu, odNu, .func (PySem.W.fnOf "is_number" "is_number" (defArgs sIsNum) (defBody sIsNum) (defScope sIsNum) .none kVNu dcNu pmNu anNu cdNu ctNu), slNu⟩)
    (cNu : codeIn K cdNu "is_number" = true)
    (kNu : keepIn K (.ref fNu) = true)
    (aFa : nsIn K mainGlobals "is_fault" = some (some (.ref fFa)))
    (lFa : K.lookup fFa = some ⟨ocFa, odFa, .func (PySem.W.fnOf "is_fault" "is_fault" (defArgs sIsFault) (defBody sIsFault) (defScope sIsFault) .none kVFa dcFa pmFa anFa cdFa ctFa), slFa⟩)
    (cFa : codeIn K cdFa "is_fault" = true)
    (kFa : keepIn K (.ref fFa) = true)
    (aAp : nsIn K mainGlobals "are_parts" = some (some (.ref fAp)))
    (lAp : K.lookup fAp = some ⟨ocAp, odAp, .func (PySem.W.fnOf "are_parts" "are_parts" (defArgs sAreParts) (defBody sAreParts) (defScope sAreParts) .none kVAp dcAp pmAp anAp cdAp ctAp), slAp⟩)
    (cAp : codeIn K cdAp "are_parts" = true)
    (kAp : keepIn K (.ref fAp) = true)
    (aOr : nsIn K mainGlobals "are_in_order" = some (some (.ref fOr)))
    (lOr : K.lookup fOr = some ⟨ocOr, odOr, .func (PySem.W.fnOf "are_in_order" "are_in_order" (defArgs sOrder) (defBody sOrder) (defScope sOrder) .none kVOr dcOr pmOr anOr cdOr ctOr), slOr⟩)
    (cOr : codeIn K cdOr "are_in_order" = true)
    (kOr : keepIn K (.ref fOr) = true)
    (aDe : nsIn K mainGlobals "depths" = some (some (.ref fDe)))
    (lDe : K.lookup fDe = some ⟨ocDe, odDe, .func (PySem.W.fnOf "depths" "depths" (defArgs sDepths) (defBody sDepths) (defScope sDepths) .none kVDe dcDe pmDe anDe cdDe ctDe), slDe⟩)
    (cDe : codeIn K cdDe "depths" = true)
    (kDe : keepIn K (.ref fDe) = true)
    (aJr : nsIn K mainGlobals "job_runs" = some (some (.ref fJr)))
    (lJr : K.lookup fJr = some ⟨ocJr, odJr, .func (PySem.W.fnOf "job_runs" "job_runs" (defArgs sJobRuns) (defBody sJobRuns) (defScope sJobRuns) .none kVJr dcJr pmJr anJr cdJr ctJr), slJr⟩)
    (cJr : codeIn K cdJr "job_runs" = true)
    (kJr : keepIn K (.ref fJr) = true)
    (aTi : nsIn K mainGlobals "times_run" = some (some (.ref fTi)))
    (lTi : K.lookup fTi = some ⟨ocTi, odTi, .func (PySem.W.fnOf "times_run" "times_run" (defArgs sTimes) (defBody sTimes) (defScope sTimes) .none kVTi dcTi pmTi anTi cdTi ctTi), slTi⟩)
    (cTi : codeIn K cdTi "times_run" = true)
    (kTi : keepIn K (.ref fTi) = true)
    (aLw : nsIn K mainGlobals "law" = some (some (.ref fLw)))
    (lLw : K.lookup fLw = some ⟨ocLw, odLw, .func (PySem.W.fnOf "law" "law" (defArgs sLaw) (defBody sLaw) (defScope sLaw) .none kVLw dcLw pmLw anLw cdLw ctLw), slLw⟩)
    (cLw : codeIn K cdLw "law" = true)
    (kLw : keepIn K (.ref fLw) = true)
    (z0 : nsIn K mainGlobals "len" = some none)
    (z1 : nsIn K mainGlobals "range" = some none)
    (z2 : nsIn K mainGlobals "int" = some none)
    (z3 : nsIn K mainGlobals "repr" = some none)
    (z4 : nsIn K mainGlobals "tuple" = some none)
    (z5 : nsIn K mainGlobals "min" = some none)
    (z6 : nsIn K mainGlobals "max" = some none)
    (z7 : nsIn K mainGlobals "sum" = some none)
    (z8 : nsIn K mainGlobals "isinstance" = some none)
    (z9 : nsIn K mainGlobals "bool" = some none)
    (z10 : nsIn K mainGlobals "str" = some none)
    (z11 : nsIn K mainGlobals "all" = some none)
    (z12 : nsIn K mainGlobals "enumerate" = some none)
    (z13 : nsIn K mainGlobals "list" = some none)
    (n0 : nsIn K mainGlobals "NODES_MOST" = some (some (.int 40 tc0)))
    (n1 : nsIn K mainGlobals "DEPTH_MOST" = some (some (.int 8 tc1)))
    (n2 : nsIn K mainGlobals "RUNS_MOST" = some (some (.int 60 tc2)))
    (n3 : nsIn K mainGlobals "PARTS_MOST" = some (some (.int 6 tc3)))
    (n4 : nsIn K mainGlobals "FAULT_MOST" = some (some (.int 999 tc4)))
    (aC : nsIn K mainGlobals "OutOfRange" = some (some (.ref C)))
    (xL : K.lookup C = some (excClassObj nm qn C N0 bs (.ref B :: veMro) true sn sub ab col dd m0 m1 m2 m3 m5 "ValueError.__new__"))
    (sa : findIn K (.ref C) "__setattr__" = some (some (.builtin "object.__setattr__")))
    (ga : findIn K (.ref C) "__getattribute__" = some (some (.builtin "BaseException.__getattribute__")))
    (gg : findIn K (.ref C) "__getattr__" = some none)
    (gn : findIn K (.ref C) "name" = some none)
    (iC : findIn K (.ref C) "__init__" = some (some (.ref fI)))
    (tI : typeIn K (.ref fI) = some (.type "function"))
    (kC : keepIn K (.ref C) = true)
    (eC : subIn K (.ref C) (.type "BaseException") = some true)
    (vC : subIn K (.ref C) (.type "ValueError") = some true)
    (tC : typeIn K (.ref C) = some (.type "type"))
    (hC : hasDictIn K C = true)
    (mC : mroIn K C (.ref C) = some true)
    (up : PySem.W.ks_superIn K C C "__init__" = some (some (.builtin "ValueError.__init__")))
    (xM : PySem.W.excInitIn K C veMro "ValueError.__new__" = true)
    (op : nsIn K cStatics "thirdparty.any" = some none)
    (nS : nsIn K mainGlobals "super" = some none)
    (lI : K.lookup fI = some ⟨ocI, odI, .func (PySem.W.ksFn "__init__" "OutOfRange.__init__" (eA ⟨6, 17, 6, 21⟩ ⟨6, 23, 6, 27⟩) (eB " is out of range" 0 ⟨7, 8, 7, 13⟩ ⟨7, 8, 7, 15⟩ ⟨7, 8, 7, 24⟩ ⟨7, 28, 7, 32⟩ ⟨7, 27, 7, 33⟩ ⟨7, 33, 7, 49⟩ ⟨7, 25, 7, 50⟩ ⟨7, 8, 7, 51⟩ ⟨7, 8, 7, 51⟩ ⟨8, 8, 8, 12⟩ ⟨8, 8, 8, 17⟩ ⟨8, 20, 8, 24⟩ ⟨8, 8, 8, 24⟩) eS .none .none dcI pmI anI (.ref cda) ctI cc), slI⟩)
    (cI : codeIn K (.ref cda) "OutOfRange.__init__" = true)
    (lc : K.lookup cc = some ⟨clc, ocd, .cell (some (.ref C)), csl⟩)
    (ld : K.lookup cda = some ⟨ccl, cdd, .fields vs, ccs⟩)
    (lv : vs[2]? = some (.str file tf))
    (lf : ((l.prog.main.file : Str) == file) = true)
    (lt : (l.prog.main.scope.names.lookup ("super" : Str)).isSome = false)
    (sC : subIn K (.ref C) (.ref C) = some true)
    (aL : nsIn K mainGlobals "LENGTHS" = some (some (.ref dL)))
    (aN : nsIn K mainGlobals "NUMBERS" = some (some (.ref dN)))
    (lL : K.lookup dL = some { cls := Value.type "dict", data := Data.dict esL nL })
    (lN : K.lookup dN = some { cls := Value.type "dict", data := Data.dict esN nN })
    (iL : PySem.W.KeysLit w.params esL.toList)
    (iN : PySem.W.KeysLit w.params esN.toList)
    (oL : (dL == sysModules) = false)
    (L_job : nsIn K dL "job" = some (some (.int 6 tl_job)))
    (N_job : nsIn K dN "job" = some (some (.ref r_job)))
    (R_job : K.lookup r_job = some ⟨.type "tuple", o_job, .seq #[.ref r_job0, .ref r_job1, .ref r_job2] n_job, s_job⟩)
    (R_job0 : K.lookup r_job0 = some ⟨.type "tuple", o_job0, .seq #[.int 1 t_job0a, .int 0 t_job0b, .int 1000 t_job0c] n_job0, s_job0⟩)
    (R_job1 : K.lookup r_job1 = some ⟨.type "tuple", o_job1, .seq #[.int 3 t_job1a, .int 0 t_job1b, .int 999 t_job1c] n_job1, s_job1⟩)
    (R_job2 : K.lookup r_job2 = some ⟨.type "tuple", o_job2, .seq #[.int 4 t_job2a, .int 0 t_job2b, .int 100 t_job2c] n_job2, s_job2⟩)
    (L_all : nsIn K dL "all" = some (some (.int 2 tl_all)))
    (N_all : nsIn K dN "all" = some (some (.ref r_all)))
    (R_all : K.lookup r_all = some ⟨.type "tuple", o_all, .seq #[] n_all, s_all⟩)
    (L_race : nsIn K dL "race" = some (some (.int 2 tl_race)))
    (N_race : nsIn K dN "race" = some (some (.ref r_race)))
    (R_race : K.lookup r_race = some ⟨.type "tuple", o_race, .seq #[] n_race, s_race⟩)
    (L_any : nsIn K dL "any" = some (some (.int 2 tl_any)))
    (N_any : nsIn K dN "any" = some (some (.ref r_any)))
    (R_any : K.lookup r_any = some ⟨.type "tuple", o_any, .seq #[] n_any, s_any⟩)
    (L_pool : nsIn K dL "pool" = some (some (.int 3 tl_pool)))
    (N_pool : nsIn K dN "pool" = some (some (.ref r_pool)))
    (R_pool : K.lookup r_pool = some ⟨.type "tuple", o_pool, .seq #[.ref r_pool0] n_pool, s_pool⟩)
    (R_pool0 : K.lookup r_pool0 = some ⟨.type "tuple", o_pool0, .seq #[.int 1 t_pool0a, .int 1 t_pool0b, .int 6 t_pool0c] n_pool0, s_pool0⟩)
    (L_timeout : nsIn K dL "timeout" = some (some (.int 3 tl_timeout)))
    (N_timeout : nsIn K dN "timeout" = some (some (.ref r_timeout)))
    (R_timeout : K.lookup r_timeout = some ⟨.type "tuple", o_timeout, .seq #[.ref r_timeout0] n_timeout, s_timeout⟩)
    (R_timeout0 : K.lookup r_timeout0 = some ⟨.type "tuple", o_timeout0, .seq #[.int 1 t_timeout0a, .int 0 t_timeout0b, .int 1000 t_timeout0c] n_timeout0, s_timeout0⟩)
    (L_sequence : nsIn K dL "sequence" = some (some (.int 2 tl_sequence)))
    (N_sequence : nsIn K dN "sequence" = some (some (.ref r_sequence)))
    (R_sequence : K.lookup r_sequence = some ⟨.type "tuple", o_sequence, .seq #[] n_sequence, s_sequence⟩)
    (L_orelse : nsIn K dL "orelse" = some (some (.int 3 tl_orelse)))
    (N_orelse : nsIn K dN "orelse" = some (some (.ref r_orelse)))
    (R_orelse : K.lookup r_orelse = some ⟨.type "tuple", o_orelse, .seq #[] n_orelse, s_orelse⟩)
    (L_retry : nsIn K dL "retry" = some (some (.int 4 tl_retry)))
    (N_retry : nsIn K dN "retry" = some (some (.ref r_retry)))
    (R_retry : K.lookup r_retry = some ⟨.type "tuple", o_retry, .seq #[.ref r_retry0, .ref r_retry1] n_retry, s_retry⟩)
    (R_retry0 : K.lookup r_retry0 = some ⟨.type "tuple", o_retry0, .seq #[.int 1 t_retry0a, .int 0 t_retry0b, .int 5 t_retry0c] n_retry0, s_retry0⟩)
    (R_retry1 : K.lookup r_retry1 = some ⟨.type "tuple", o_retry1, .seq #[.int 2 t_retry1a, .int 0 t_retry1b, .int 100 t_retry1c] n_retry1, s_retry1⟩) :
    ∃ fd : FuncData, (∀ (s : Shared) (u : Value), BindsTo s fd ⟨[u], []⟩ [("script", u)]) ∧ ∀ base : Heap, K.In base → base.Ns mainGlobals mg → FnG l.prog w K mg base CX0 7 fa fd ["script"] (spLaw K) := by
  have FCell := fun_mk (st := sCell) lCell cCell kCell
  have bCell := FCell.binds (ps := ["script", "k"]) fun _ _ _ _ _ _ us hl => match us, hl with | [_, _], _ => rfl
  have mCell := PySem.W.mg_of X G aCell
  have FDig := fun_mk (st := sDigits) lDig cDig kDig
  have bDig := FDig.binds (ps := ["script", "first", "last"]) fun _ _ _ _ _ _ us hl => match us, hl with | [_, _, _], _ => rfl
  have mDig := PySem.W.mg_of X G aDig
  have FDr := fun_mk (st := sDraw) lDr cDr kDr
  have bDr := FDr.binds (ps := ["box", "many"]) fun _ _ _ _ _ _ us hl => match us, hl with | [_, _], _ => rfl
  have mDr := PySem.W.mg_of X G aDr
  have FJo := fun_mk (st := sJob) lJo cJo kJo
  have bJo := FJo.binds (ps := ["box"]) fun _ _ _ _ _ _ us hl => match us, hl with | [_], _ => rfl
  have mJo := PySem.W.mg_of X G aJo
  have FWh := fun_mk (st := sWhole) lWh cWh kWh
  have bWh := FWh.binds (ps := ["box", "kind", "tops"]) fun _ _ _ _ _ _ us hl => match us, hl with | [_, _, _], _ => rfl
  have mWh := PySem.W.mg_of X G aWh
  have FPl := fun_mk (st := sPlan) lPl cPl kPl
  have bPl := FPl.binds (ps := ["box", "jobs"]) fun _ _ _ _ _ _ us hl => match us, hl with | [_, _], _ => rfl
  have mPl := PySem.W.mg_of X G aPl
  have FLp := fun_mk (st := sLParts) lLp cLp kLp
  have bLp := FLp.binds (ps := ["node"]) fun _ _ _ _ _ _ us hl => match us, hl with | [_], _ => rfl
  have mLp := PySem.W.mg_of X G aLp
  have FSi := fun_mk (st := sLSizes) lSi cSi kSi
  have bSi := FSi.binds (ps := ["plan"]) fun _ _ _ _ _ _ us hl => match us, hl with | [_], _ => rfl
  have mSi := PySem.W.mg_of X G aSi
  have FLb := fun_mk (st := sLBounds) lLb cLb kLb
  have bLb := FLb.binds (ps := ["node"]) fun _ _ _ _ _ _ us hl => match us, hl with | [_], _ => rfl
  have mLb := PySem.W.mg_of X G aLb
  have FGo := fun_mk (st := sLGood) lGo cGo kGo
  have bGo := FGo.binds (ps := ["plan"]) fun _ _ _ _ _ _ us hl => match us, hl with | [_], _ => rfl
  have mGo := PySem.W.mg_of X G aGo
  have FLn := fun_mk (st := sLNumber) lLn cLn kLn
  have bLn := FLn.binds (ps := ["box", "node"]) fun _ _ _ _ _ _ us hl => match us, hl with | [_, _], _ => rfl
  have mLn := PySem.W.mg_of X G aLn
  have FLl := fun_mk (st := sLLong) lLl cLl kLl
  have bLl := FLl.binds (ps := ["box"]) fun _ _ _ _ _ _ us hl => match us, hl with | [_], _ => rfl
  have mLl := PySem.W.mg_of X G aLl
  have FSp := fun_mk (st := sLSpoil) lSp cSp kSp
  have bSp := FSp.binds (ps := ["box", "plan"]) fun _ _ _ _ _ _ us hl => match us, hl with | [_, _], _ => rfl
  have mSp := PySem.W.mg_of X G aSp
  have FRe := fun_mk (st := sLRefused) lRe cRe kRe
  have bRe := FRe.binds (ps := ["plan"]) fun _ _ _ _ _ _ us hl => match us, hl with | [_], _ => rfl
  have mRe := PySem.W.mg_of X G aRe
  have FPa := fun_mk (st := sParts) lPa cPa kPa
  have bPa := FPa.binds (ps := ["node"]) fun _ _ _ _ _ _ us hl => match us, hl with | [_], _ => rfl
  have mPa := PySem.W.mg_of X G aPa
  have FCp := fun_mk (st := sCheckP) lCp cCp kCp
  have bCp := FCp.binds (ps := ["plan"]) fun _ _ _ _ _ _ us hl => match us, hl with | [_], _ => rfl
  have mCp := PySem.W.mg_of X G aCp
  have FIp := fun_mk (st := sIsPlan) lIp cIp kIp
  have bIp := FIp.binds (ps := ["plan"]) fun _ _ _ _ _ _ us hl => match us, hl with | [_], _ => rfl
  have mIp := PySem.W.mg_of X G aIp
  have FIn := fun_mk (st := sIsNode) lIn cIn kIn
  have bIn := FIn.binds (ps := ["node"]) fun _ _ _ _ _ _ us hl => match us, hl with | [_], _ => rfl
  have mIn := PySem.W.mg_of X G aIn
  have FNu := fun_mk (st := sIsNum) lNu cNu kNu
  have bNu := FNu.binds (ps := ["value", "least", "most"]) fun _ _ _ _ _ _ us hl => match us, hl with | [_, _, _], _ => rfl
  have mNu := PySem.W.mg_of X G aNu
  have FFa := fun_mk (st := sIsFault) lFa cFa kFa
  have bFa := FFa.binds (ps := ["value"]) fun _ _ _ _ _ _ us hl => match us, hl with | [_], _ => rfl
  have mFa := PySem.W.mg_of X G aFa
  have FAp := fun_mk (st := sAreParts) lAp cAp kAp
  have bAp := FAp.binds (ps := ["parts"]) fun _ _ _ _ _ _ us hl => match us, hl with | [_], _ => rfl
  have mAp := PySem.W.mg_of X G aAp
  have FOr := fun_mk (st := sOrder) lOr cOr kOr
  have bOr := FOr.binds (ps := ["plan"]) fun _ _ _ _ _ _ us hl => match us, hl with | [_], _ => rfl
  have mOr := PySem.W.mg_of X G aOr
  have FDe := fun_mk (st := sDepths) lDe cDe kDe
  have bDe := FDe.binds (ps := ["plan"]) fun _ _ _ _ _ _ us hl => match us, hl with | [_], _ => rfl
  have mDe := PySem.W.mg_of X G aDe
  have FJr := fun_mk (st := sJobRuns) lJr cJr kJr
  have bJr := FJr.binds (ps := ["plan"]) fun _ _ _ _ _ _ us hl => match us, hl with | [_], _ => rfl
  have mJr := PySem.W.mg_of X G aJr
  have FTi := fun_mk (st := sTimes) lTi cTi kTi
  have bTi := FTi.binds (ps := ["node"]) fun _ _ _ _ _ _ us hl => match us, hl with | [_], _ => rfl
  have mTi := PySem.W.mg_of X G aTi
  have FLw := fun_mk (st := sLaw) lLw cLw kLw
  have T : Tabs K w mg dL dN := by
    refine { gL := PySem.W.mg_of X G aL, gN := PySem.W.mg_of X G aN, kL := ⟨_, _, ⟨lL, iL, oL⟩⟩, len := fun n => ?_, num := fun n => ?_ }
    · match n with
      | .job .. => exact ⟨_, _, _, lL, iL, L_job, ⟨_, rfl⟩⟩
      | .whole (.plain .all) ps => exact ⟨_, _, _, lL, iL, L_all, ⟨_, rfl⟩⟩
      | .whole (.plain .race) ps => exact ⟨_, _, _, lL, iL, L_race, ⟨_, rfl⟩⟩
      | .whole (.plain .any) ps => exact ⟨_, _, _, lL, iL, L_any, ⟨_, rfl⟩⟩
      | .whole (.plain .sequence) ps => exact ⟨_, _, _, lL, iL, L_sequence, ⟨_, rfl⟩⟩
      | .whole (.pool m) ps => exact ⟨_, _, _, lL, iL, L_pool, ⟨_, rfl⟩⟩
      | .whole (.timeout t) ps => exact ⟨_, _, _, lL, iL, L_timeout, ⟨_, rfl⟩⟩
      | .whole .orelse ps => exact ⟨_, _, _, lL, iL, L_orelse, ⟨_, rfl⟩⟩
      | .whole (.retry r d) ps => exact ⟨_, _, _, lL, iL, L_retry, ⟨_, rfl⟩⟩
    · match n with
      | .job .. =>
      refine ⟨r_job, [.ref r_job0, .ref r_job1, .ref r_job2], ⟨_, _, _, lN, iN, N_job, rfl⟩, sq_k R_job (by show 3 ≤ sizeLine; decide) (.cons rfl (.cons rfl (.cons rfl (.nil)))), rfl, fun j q h => ?_⟩
      (match j, h with
      | 0, h => cases h; exact ⟨r_job0, rfl, sq_k R_job0 (by show 3 ≤ sizeLine; decide) (.cons ⟨_, rfl⟩ (.cons ⟨_, rfl⟩ (.cons ⟨_, rfl⟩ .nil)))⟩
      | 1, h => cases h; exact ⟨r_job1, rfl, sq_k R_job1 (by show 3 ≤ sizeLine; decide) (.cons ⟨_, rfl⟩ (.cons ⟨_, rfl⟩ (.cons ⟨_, rfl⟩ .nil)))⟩
      | 2, h => cases h; exact ⟨r_job2, rfl, sq_k R_job2 (by show 3 ≤ sizeLine; decide) (.cons ⟨_, rfl⟩ (.cons ⟨_, rfl⟩ (.cons ⟨_, rfl⟩ .nil)))⟩
      | j + 3, h => exact absurd h (by simp [Nd.nums]))
      | .whole (.plain .all) ps =>
      refine ⟨r_all, [], ⟨_, _, _, lN, iN, N_all, rfl⟩, sq_k R_all (by show 0 ≤ sizeLine; decide) (.nil), rfl, fun j q h => ?_⟩
      exact absurd h (by simp [Nd.nums])
      | .whole (.plain .race) ps =>
      refine ⟨r_race, [], ⟨_, _, _, lN, iN, N_race, rfl⟩, sq_k R_race (by show 0 ≤ sizeLine; decide) (.nil), rfl, fun j q h => ?_⟩
      exact absurd h (by simp [Nd.nums])
      | .whole (.plain .any) ps =>
      refine ⟨r_any, [], ⟨_, _, _, lN, iN, N_any, rfl⟩, sq_k R_any (by show 0 ≤ sizeLine; decide) (.nil), rfl, fun j q h => ?_⟩
      exact absurd h (by simp [Nd.nums])
      | .whole (.plain .sequence) ps =>
      refine ⟨r_sequence, [], ⟨_, _, _, lN, iN, N_sequence, rfl⟩, sq_k R_sequence (by show 0 ≤ sizeLine; decide) (.nil), rfl, fun j q h => ?_⟩
      exact absurd h (by simp [Nd.nums])
      | .whole (.pool m) ps =>
      refine ⟨r_pool, [.ref r_pool0], ⟨_, _, _, lN, iN, N_pool, rfl⟩, sq_k R_pool (by show 1 ≤ sizeLine; decide) (.cons rfl (.nil)), rfl, fun j q h => ?_⟩
      (match j, h with
      | 0, h => cases h; exact ⟨r_pool0, rfl, sq_k R_pool0 (by show 3 ≤ sizeLine; decide) (.cons ⟨_, rfl⟩ (.cons ⟨_, rfl⟩ (.cons ⟨_, rfl⟩ .nil)))⟩
      | j + 1, h => exact absurd h (by simp [Nd.nums]))
      | .whole (.timeout t) ps =>
      refine ⟨r_timeout, [.ref r_timeout0], ⟨_, _, _, lN, iN, N_timeout, rfl⟩, sq_k R_timeout (by show 1 ≤ sizeLine; decide) (.cons rfl (.nil)), rfl, fun j q h => ?_⟩
      (match j, h with
      | 0, h => cases h; exact ⟨r_timeout0, rfl, sq_k R_timeout0 (by show 3 ≤ sizeLine; decide) (.cons ⟨_, rfl⟩ (.cons ⟨_, rfl⟩ (.cons ⟨_, rfl⟩ .nil)))⟩
      | j + 1, h => exact absurd h (by simp [Nd.nums]))
      | .whole .orelse ps =>
      refine ⟨r_orelse, [], ⟨_, _, _, lN, iN, N_orelse, rfl⟩, sq_k R_orelse (by show 0 ≤ sizeLine; decide) (.nil), rfl, fun j q h => ?_⟩
      exact absurd h (by simp [Nd.nums])
      | .whole (.retry r d) ps =>
      refine ⟨r_retry, [.ref r_retry0, .ref r_retry1], ⟨_, _, _, lN, iN, N_retry, rfl⟩, sq_k R_retry (by show 2 ≤ sizeLine; decide) (.cons rfl (.cons rfl (.nil))), rfl, fun j q h => ?_⟩
      (match j, h with
      | 0, h => cases h; exact ⟨r_retry0, rfl, sq_k R_retry0 (by show 3 ≤ sizeLine; decide) (.cons ⟨_, rfl⟩ (.cons ⟨_, rfl⟩ (.cons ⟨_, rfl⟩ .nil)))⟩
      | 1, h => cases h; exact ⟨r_retry1, rfl, sq_k R_retry1 (by show 3 ≤ sizeLine; decide) (.cons ⟨_, rfl⟩ (.cons ⟨_, rfl⟩ (.cons ⟨_, rfl⟩ .nil)))⟩
      | j + 2, h => exact absurd h (by simp [Nd.nums]))
  have low : Oor K mg l.prog "OutOfRange" C fI cc cda :=
    { gC := PySem.W.mg_of X G aC, cls := ⟨nm, qn, N0, bs, _, sn, sub, ab, col, dd, m0, m1, m2, m3, m5, xL, by rfl⟩, sa := sa, ga := ga, gg := gg, noN := gn, iC := iC, tC := tI, kC := kC, exC := eC, veC := vC, tyC := tC, hdC := hC, me := mC, up := up, made := xM, op := op,
      mgS := PySem.W.mg_none_of X G nS, top := lt, cell := ⟨_, _, _, lc⟩, code := ⟨_, _, _, _, _, _, ld, lv, lf⟩, fn := ⟨_, _, _, _, _, _, _, _, _, _, _, _, _, _, _, _, _, _, _, _, _, _, _, _, _, lI, cI, by decide +kernel, rfl⟩ }
  have M0 : Names mg := ⟨PySem.W.mg_none_of X G z0, PySem.W.mg_none_of X G z1, PySem.W.mg_none_of X G z2, PySem.W.mg_none_of X G z3⟩
  have M1 : NamesP mg := ⟨M0, PySem.W.mg_none_of X G z4, PySem.W.mg_none_of X G z5, PySem.W.mg_none_of X G z6, PySem.W.mg_none_of X G z7⟩
  have M : NamesQ mg := ⟨M1, PySem.W.mg_none_of X G z8, PySem.W.mg_none_of X G z9, PySem.W.mg_none_of X G z10, PySem.W.mg_none_of X G z11, PySem.W.mg_none_of X G z12, PySem.W.mg_none_of X G z13⟩
  have CO : Cons mg := ⟨⟨_, PySem.W.mg_of X G n0⟩, ⟨_, PySem.W.mg_of X G n1⟩, ⟨_, PySem.W.mg_of X G n2⟩, ⟨_, PySem.W.mg_of X G n3⟩, ⟨_, PySem.W.mg_of X G n4⟩⟩
  have exC := PySem.W.exm_ref eC hC tC sC
  have e := hfa.symm.trans (PySem.W.mg_of X G aLw)
  cases e
  refine ⟨_, fun s v => .of_eq rfl, fun base _ _ => FnG.ofOk (ok_law FLw ?_)⟩
  have SB : Subs K mg base l.prog w :=
    { N := ⟨_, _, ok_isnode FIn M CO T FNu mNu bNu FFa mFa bFa FAp mAp bAp FPa mPa bPa, mIn, kIn, bIn⟩, O := ⟨_, _, ok_order FOr M FPa mPa bPa, mOr, kOr, bOr⟩, D := ⟨_, _, ok_depths FDe M1 FPa mPa bPa, mDe, kDe, bDe⟩, R := ⟨_, _, ok_runs FJr M1 FPa mPa bPa FTi mTi bTi, mJr, kJr, bJr⟩ }
  have GK := ok_checkp FCp low (ok_isplan FIp M CO SB) mIp kIp bIp
  exact
    { G := ⟨_, _, ok_digits FDig M0 FCell mCell bCell, mDig, kDig, bDig⟩, Pl := ⟨_, _, ok_plan FPl M1 FDr mDr bDr FJo mJo bJo FWh mWh bWh, mPl, kPl, bPl⟩, S := ⟨_, _, ok_lspoil FSp M FDr mDr bDr FLn mLn bLn FLl mLl bLl, mSp, kSp, bSp⟩,
      O := ⟨_, _, ok_lgood FGo M FLp mLp bLp FLb mLb bLb FSi mSi bSi, mGo, kGo, bGo⟩, R := ⟨_, _, ok_lrefused FRe low exC GK mCp kCp bCp, mRe, kRe, bRe⟩, Pa := ⟨_, _, ok_parts FPa, mPa, kPa, bPa⟩, Lp := ⟨_, _, ok_lparts FLp, mLp, kLp, bLp⟩, names := M, cons := CO }
end LB

open PySem PySem.W PyProof.Rows
set_option maxRecDepth 100000 in
set_option maxHeartbeats 0 in
theorem PySem.Challenge.cw_asforetold_k03_plans_are_one_tree_holds : PySem.Challenge.rw_asforetold_k03_plans_are_one_tree.Holds := by
  w_on; o_law; k_head; (case hw => w_witness2)
  k_fill
  refine LB.walk_free (l := PySem.Challenge.rw_asforetold_k03_plans_are_one_tree) (n := 63) (k := 7) (x := "script") (CX := L2.CX0) (sp := LB.spLaw) rfl (by decide) rfl ⟨rfl, by decide, by decide⟩ (fun w h Y => PySem.W.kIn_of Y) ?F (fun K H a ns hl _ hS => ⟨a, ns, rfl, hS, fun _ => rfl⟩) fun _ _ _ _ z => z
  case F =>
    intro w mg fa h KX G hmg
    refine' LB.all_mk KX G hmg ?aCell ?lCell ?cCell ?kCell ?aDig ?lDig ?cDig ?kDig ?aDr ?lDr ?cDr ?kDr ?aJo ?lJo ?cJo ?kJo ?aWh ?lWh ?cWh ?kWh ?aPl ?lPl ?cPl ?kPl ?aLp ?lLp ?cLp ?kLp ?aSi ?lSi ?cSi ?kSi ?aLb ?lLb ?cLb ?kLb ?aGo ?lGo ?cGo ?kGo ?aLn ?lLn ?cLn ?kLn ?aLl ?lLl ?cLl ?kLl ?aSp ?lSp ?cSp ?kSp ?aRe ?lRe ?cRe ?kRe ?aPa ?lPa ?cPa ?kPa ?aCp ?lCp ?cCp ?kCp ?aIp ?lIp ?cIp ?kIp ?aIn ?lIn ?cIn ?kIn ?aNu ?lNu ?cNu ?kNu ?aFa ?lFa ?cFa ?kFa ?aAp ?lAp ?cAp ?kAp ?aOr ?lOr ?cOr ?kOr ?aDe ?lDe ?cDe ?kDe ?aJr ?lJr ?cJr ?kJr ?aTi ?lTi ?cTi ?kTi ?aLw ?lLw ?cLw ?kLw ?z0 ?z1 ?z2 ?z3 ?z4 ?z5 ?z6 ?z7 ?z8 ?z9 ?z10 ?z11 ?z12 ?z13 ?n0 ?n1 ?n2 ?n3 ?n4 ?aC ?xL ?sa ?ga ?gg ?gn ?iC ?tI ?kC ?eC ?vC ?tC ?hC ?mC ?up ?xM ?op ?nS ?lI ?cI ?lc ?ld ?lv ?lf ?lt ?sC ?aL ?aN ?lL ?lN ?iL ?iN ?oL ?L_job ?N_job ?R_job ?R_job0 ?R_job1 ?R_job2 ?L_all ?N_all ?R_all ?L_race ?N_race ?R_race ?L_any ?N_any ?R_any ?L_pool ?N_pool ?R_pool ?R_pool0 ?L_timeout ?N_timeout ?R_timeout ?R_timeout0 ?L_sequence ?N_sequence ?R_sequence ?L_orelse ?N_orelse ?R_orelse ?L_retry ?N_retry ?R_retry ?R_retry0 ?R_retry1
    (case aCell => k_is)
    (case lCell => k_is)
    (case cCell => k_is)
    (case kCell => k_is)
    (case aDig => k_is)
    (case lDig => k_is)
    (case cDig => k_is)
    (case kDig => k_is)
    (case aDr => k_is)
    (case lDr => k_is)
    (case cDr => k_is)
    (case kDr => k_is)
    (case aJo => k_is)
    (case lJo => k_is)
    (case cJo => k_is)
    (case kJo => k_is)
    (case aWh => k_is)
    (case lWh => k_is)
    (case cWh => k_is)
    (case kWh => k_is)
    (case aPl => k_is)
    (case lPl => k_is)
    (case cPl => k_is)
    (case kPl => k_is)
    (case aLp => k_is)
    (case lLp => k_is)
    (case cLp => k_is)
    (case kLp => k_is)
    (case aSi => k_is)
    (case lSi => k_is)
    (case cSi => k_is)
    (case kSi => k_is)
    (case aLb => k_is)
    (case lLb => k_is)
    (case cLb => k_is)
    (case kLb => k_is)
    (case aGo => k_is)
    (case lGo => k_is)
    (case cGo => k_is)
    (case kGo => k_is)
    (case aLn => k_is)
    (case lLn => k_is)
    (case cLn => k_is)
    (case kLn => k_is)
    (case aLl => k_is)
    (case lLl => k_is)
    (case cLl => k_is)
    (case kLl => k_is)
    (case aSp => k_is)
    (case lSp => k_is)
    (case cSp => k_is)
    (case kSp => k_is)
    (case aRe => k_is)
    (case lRe => k_is)
    (case cRe => k_is)
    (case kRe => k_is)
    (case aPa => k_is)
    (case lPa => k_is)
    (case cPa => k_is)
    (case kPa => k_is)
    (case aCp => k_is)
    (case lCp => k_is)
    (case cCp => k_is)
    (case kCp => k_is)
    (case aIp => k_is)
    (case lIp => k_is)
    (case cIp => k_is)
    (case kIp => k_is)
    (case aIn => k_is)
    (case lIn => k_is)
    (case cIn => k_is)
    (case kIn => k_is)
    (case aNu => k_is)
    (case lNu => k_is)
    (case cNu => k_is)
    (case kNu => k_is)
    (case aFa => k_is)
    (case lFa => k_is)
    (case cFa => k_is)
    (case kFa => k_is)
    (case aAp => k_is)
    (case lAp => k_is)
    (case cAp => k_is)
    (case kAp => k_is)
    (case aOr => k_is)
    (case lOr => k_is)
    (case cOr => k_is)
    (case kOr => k_is)
    (case aDe => k_is)
    (case lDe => k_is)
    (case cDe => k_is)
    (case kDe => k_is)
    (case aJr => k_is)
    (case lJr => k_is)
    (case cJr => k_is)
    (case kJr => k_is)
    (case aTi => k_is)
    (case lTi => k_is)
    (case cTi => k_is)
    (case kTi => k_is)
    (case aLw => k_is)
    (case lLw => k_is)
    (case cLw => k_is)
    (case kLw => k_is)
    (case z0 => k_is)
    (case z1 => k_is)
    (case z2 => k_is)
    (case z3 => k_is)
    (case z4 => k_is)
    (case z5 => k_is)
    (case z6 => k_is)
    (case z7 => k_is)
    (case z8 => k_is)
    (case z9 => k_is)
    (case z10 => k_is)
    (case z11 => k_is)
    (case z12 => k_is)
    (case z13 => k_is)
    (case n0 => k_is)
    (case n1 => k_is)
    (case n2 => k_is)
    (case n3 => k_is)
    (case n4 => k_is)
    (case aC => k_is)
    (case xL => k_is)
    (case sa => k_is)
    (case ga => k_is)
    (case gg => k_is)
    (case gn => k_is)
    (case iC => k_is)
    (case tI => k_is)
    (case kC => k_is)
    (case eC => k_is)
    (case vC => k_is)
    (case tC => k_is)
    (case hC => k_is)
    (case mC => k_is)
    (case up => ks_is)
    (case xM => kx_is)
    (case op => k_is)
    (case nS => k_is)
    (case lI => k_is)
    (case cI => k_is)
    (case lc => k_is)
    (case ld => k_is)
    (case lv => rfl)
    (case lf => (first | rfl | decide +kernel | kernel_rfl))
    (case lt => (first | rfl | decide +kernel | kernel_rfl))
    (case sC => k_is)
    (case aL => k_is)
    (case aN => k_is)
    (case lL => k_is)
    (case lN => k_is)
    (case iL => exact ⟨⟨_, _, rfl, rfl⟩, ⟨_, _, rfl, rfl⟩, ⟨_, _, rfl, rfl⟩, ⟨_, _, rfl, rfl⟩, ⟨_, _, rfl, rfl⟩, ⟨_, _, rfl, rfl⟩, ⟨_, _, rfl, rfl⟩, ⟨_, _, rfl, rfl⟩, ⟨_, _, rfl, rfl⟩, trivial⟩)
    (case iN => exact ⟨⟨_, _, rfl, rfl⟩, ⟨_, _, rfl, rfl⟩, ⟨_, _, rfl, rfl⟩, ⟨_, _, rfl, rfl⟩, ⟨_, _, rfl, rfl⟩, ⟨_, _, rfl, rfl⟩, ⟨_, _, rfl, rfl⟩, ⟨_, _, rfl, rfl⟩, ⟨_, _, rfl, rfl⟩, trivial⟩)
    (case oL => (first | rfl | decide | decide +kernel))
    (case L_job => k_is)
    (case N_job => k_is)
    (case R_job => k_is)
    (case R_job0 => k_is)
    (case R_job1 => k_is)
    (case R_job2 => k_is)
    (case L_all => k_is)
    (case N_all => k_is)
    (case R_all => k_is)
    (case L_race => k_is)
    (case N_race => k_is)
    (case R_race => k_is)
    (case L_any => k_is)
    (case N_any => k_is)
    (case R_any => k_is)
    (case L_pool => k_is)
    (case N_pool => k_is)
    (case R_pool => k_is)
    (case R_pool0 => k_is)
    (case L_timeout => k_is)
    (case N_timeout => k_is)
    (case R_timeout => k_is)
    (case R_timeout0 => k_is)
    (case L_sequence => k_is)
    (case N_sequence => k_is)
    (case R_sequence => k_is)
    (case L_orelse => k_is)
    (case N_orelse => k_is)
    (case R_orelse => k_is)
    (case L_retry => k_is)
    (case N_retry => k_is)
    (case R_retry => k_is)
    (case R_retry0 => k_is)
    (case R_retry1 => k_is)

