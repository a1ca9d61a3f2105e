import PyProof.Rows.All
import Wide.All
import OpenK.AllK
import Wide.FinOn
import HandS.ForExc
import HandS.EndBits
import HandS.Wide
import HandS.TupLe
import HandS.ExcSuper
import HandS.ExcIs
import KE.KExcSuper
import KE.KExcIs
import HandS.Dict
import HandS.List
import KE.KDictKeyed
import KE.KeyNested
import KE.DataMinMax
import KE.SortData
import HandS.TupMul
import HandS.Codes
import HandS.Comp
import HandS.TupAny
import HandS.TryOnly
import HandS.IsInst
import HandS.Walk
import KE.KExcLine
import PySem.Challenge.RW_asforetold_k11_jobs_foretold
set_option Elab.async false
set_option linter.all false
set_option maxRecDepth 100000
set_option maxHeartbeats 2000000
namespace LB
open PySem PySem.Spec PyProof.Rows L2
/-! ### defs that are called where no repr is under way -/
def Free (A : Around) : Prop := A.guards = some []
/-- as a def's promise, but told of calls from places at which no repr is under way alone -/
structure FnG (P : Program) (w : World) (K : PySem.W.Frag) (mg : Str → Option Value) (base : Heap) (CX : CXT) (k : Nat) (f : Addr) (fd : FuncData) (ps : List Str) (sp : Sp) : Prop where
  many : ∀ xs H Q E, sp xs H Q E → xs.length = ps.length
  goes : ∀ (A : Around) (fr : List Env) (s : Shared) (H : Hp) (a : Args) (us : List Value) (xs : List V) (Q : VK) (E : XK), Free A → Room k A → Env0 P w K mg base A fr s H →
    BindsTo s fd a (ps.zip us) → Vals xs us → sp xs H Q E → codeAny (model P w) A (.call (.ref f) a) (CR CX fr P w H s Q E) s
theorem FnG.ofOk {P : Program} {w : World} {K : PySem.W.Frag} {mg : Str → Option Value} {base : Heap} {CX : CXT} {k : Nat} {f : Addr} {fd : FuncData} {ps : List Str} {sp : Sp} (F : FnOk P w K mg base CX k f fd ps sp) : FnG P w K mg base CX k f fd ps sp :=
  ⟨F.len, fun A fr s H a us xs Q E _ => F.run A fr s H a us xs Q E⟩
theorem FnG.up {P : Program} {w : World} {K : PySem.W.Frag} {mg : Str → Option Value} {base : Heap} {CX : CXT} {j k : Nat} {f : Addr} {fd : FuncData} {ps : List Str} {sp : Sp} (F : FnG P w K mg base CX j f fd ps sp) (h : j ≤ k) : FnG P w K mg base CX k f fd ps sp :=
  ⟨F.many, fun A fr s H a us xs Q E g r => F.goes A fr s H a us xs Q E g (r.mono h)⟩
theorem Free.deeper {A : Around} (g : Free A) (env : Env) : Free (A.deeper env) := by
  first
    | exact g
    | (unfold Free at *; simpa [Around.deeper] using g)
/-- by the body, as fn_of -/
theorem FnG.by_body {CX : CXT} {P : Program} {w : World} {K : PySem.W.Frag} {mg : Str → Option Value} {base : Heap} {k : Nat} {f : Addr} {x q : Str} {pa : Arguments} {bd : List Stmt} {sc : Scope} {v1 v2 v3 v4 v5 v6 v7 : Value} {a1 a2 : Option Addr}
    {sl : Array (Option Value)} {N ps : List Str} {sp : Sp} (at_ : K.lookup f = some ⟨v7, a2, .func (PySem.W.fnOf x q pa bd sc v1 v2 v3 v4 a1 v5 v6), sl⟩) (code : PySem.W.codeIn K v5 q = true) (S : FnScope N ps sc)
    (many : ∀ xs H Q E, sp xs H Q E → xs.length = ps.length)
    (body : ∀ (A : Around) (fr : List Env) (s : Shared) (H : Hp) (xs : List V) (Q : VK) (E : XK), Free (A.deeper (envOfC q sc s.heap.objs.size f v5)) → Room k (A.deeper (envOfC q sc s.heap.objs.size f v5)) → sp xs H Q E →
      ∃ t, PSs (cxOf CX P w K mg base N q sc f v5 A fr s H E) bd t ∧ t { nx := fun _ H' => Q .non H', rt := Q } (start N xs) H) :
    FnG P w K mg base CX (k + 1) f (PySem.W.fnOf x q pa bd sc v1 v2 v3 v4 a1 v5 v6) ps sp := by
  constructor
  · exact many
  intro A fr s H a us xs Q E g room e0 bound vals want
  have kin : K.In s.heap := e0.mod.kin.keeps fun b o z => (e0.bs b o z).1
  have nolim : s.heap.NoLimit := e0.mod.nolimit.keeps fun b o z => (e0.bs b o z).1
  have len := many _ _ _ _ want
  obtain ⟨t, derived, reads⟩ := body A fr s H xs Q E (g.deeper _) (room.deeper _) want
  have kinds : ∀ y ∈ ps.zip us, sc.names.lookup y.1 = some .local ∨ (sc.names.lookup y.1 = some .cell ∧ ((cellsFrom (s.heap.objs.size + 1) sc.names []).lookup y.1).isSome = true) := by
    rintro ⟨n, v⟩ hy
    cases S.par n (List.of_mem_zip hy).1 with
    | inl z => exact .inl z
    | inr z => exact .inr ⟨z, PySem.W.cellsFrom_some _ _ _ (.inl z)⟩
  refine codeAny_call_function room.depth (kin _ _ at_) rfl S.co S.gen rfl (PySem.W.codeRec_of kin code) (bound _ _ _ _ ?_)
  refine wpAny_newFunctionEnv_cells S.kind kinds ?_
  intro env he s1 into
  subst he
  refine ⟨nolim.keeps into.toInCall.keep, codeAny_func ?_⟩
  have I := inv_start (CX := CX) (E := E) S room.hd e0 len vals into
  refine wpAny_mono (derived.run [] s1 (start N xs) H _ I reads) ?_ (fun _ _ z => z)
  intro fl s2 z
  cases fl with
  | next =>
    obtain ⟨σ2, H2, J, q⟩ := z
    exact ⟨.non, H2, J.os, J.bare, J.base, J.hok, rfl, q⟩
  | ret u =>
    obtain ⟨v, σ2, H2, J, r, q⟩ := z
    exact ⟨v, H2, J.os, J.bare, J.base, J.hok, r, q⟩
  | brk =>
    obtain ⟨_, _, _, q⟩ := z
    exact q.elim
  | cont =>
    obtain ⟨_, _, _, q⟩ := z
    exact q.elim
theorem FnG.of_fun {P : Program} {w : World} {K : PySem.W.Frag} {mg : Str → Option Value} {base : Heap} {x q : Str} {st : Stmt} {f : Addr} {fd : FuncData} {N ps : List Str} {k : Nat} {sp : Sp} (F : Fun K x q st f fd) (S : FnScope N ps (defScope st)) (many : ∀ xs H Q E, sp xs H Q E → xs.length = ps.length)
    (body : ∀ (cdv : Value) (A : Around) (fr : List Env) (s : Shared) (H : Hp) (xs : List V) (Q : VK) (E : XK), Free (A.deeper (envOfC q (defScope st) s.heap.objs.size f cdv)) → Room k (A.deeper (envOfC q (defScope st) s.heap.objs.size f cdv)) → sp xs H Q E →
      ∃ t, PSs (cxOf CX0 P w K mg base N q (defScope st) f cdv A fr s H E).nox (defBody st) t ∧ t { nx := fun _ H' => Q .non H', rt := Q } (start N xs) H) : FnG P w K mg base CX0 (k + 1) f fd ps sp := by
  obtain ⟨v7, a2, v2, v3, v4, a1, v5, v6, sl, rfl, at_, code⟩ := F.ex
  refine FnG.by_body at_ code S many ?_
  intro A fr s H xs Q E g r want
  obtain ⟨t, h, q⟩ := body v5 A fr s H xs Q E g r want
  exact ⟨t, h.nox, q⟩
section
variable {X : Cx} {CX : CXT} {k : Nat} {f : Addr} {fd : FuncData} {ps : List Str} {sp : Sp} {dvs : List V} {ds : List Value} {E : XK} {x : Str} {p pos : Pos} {e : Expr} {es : List Expr} {t : TA}
/-- f(e, ..), f such a def -/
theorem pe_callF (g : Free X.A) (F : FnG X.prog X.w X.K X.mg X.base CX k f fd ps sp) (hr : Room k X.A) (hg : Gl X x) (hm : X.mg x = some (.ref f)) (hk : PySem.W.keepIn X.K (.ref f) = true) (hb : Binds X.K fd ps ds) (hd : Vals dvs ds) (hx : Passes CX X E)
    (ha : PA X (e :: es) t) (hdb : (x == ("__debug__" : Str)) = false := by decide) (he : starEach (e :: es) X.env = (false, eval e X.env) :: starEach es X.env := by rfl) (hpl : (backTo pos (starEach es X.env)).any (·.1) = false := by rfl) :
    PE X (.Call (.Name x p) (e :: es) [] pos) (tCall sp dvs E t) := by
  constructor
  intro pins s σ H Q I h
  refine wpAny_Call_Name_kw (ld_glob I hg hm ?_ hdb)
  refine PySem.W.callWith_K (h₀ := X.base) I.ok.mod.kin hk (thn (ha.run pos pins s σ H _ I h) ?_) he hpl
  rintro us s1 ⟨xs, H1, I1, r, q⟩
  refine ⟨I1.kIn, ?_⟩
  have r2 : Vals (xs ++ dvs) (us ++ ds) := r.append hd
  have len : (us ++ ds).length = ps.length := r2.length.symm.trans (F.many _ _ _ _ q)
  refine wpAny_call (codeAny_mono (F.goes X.A X.stack s1 H1 ⟨us, []⟩ (us ++ ds) (xs ++ dvs) Q E g hr I1.env0 (hb s1 us I1.kIn len) r2 q) ?_)
  intro res s2 z
  match res, z with
  | .error err, z => exact hx pins σ H1 s1 err s2 I1 z
  | .ok (.ret u), z => exact I1.after z
  | .ok .next, z => exact False.elim z
  | .ok .brk, z => exact False.elim z
  | .ok .cont, z => exact False.elim z
end
end LB

set_option maxRecDepth 100000
set_option maxHeartbeats 2000000
namespace LB
open PySem PySem.Spec PyProof.Rows L2
/-! ### repr of data -/
/-- data whose repr is short enough to be told -/
structure Short (d : PyData) : Prop where
  sh : d.showable = true
  nd : d.hasDict = false
  dp : d.depth ≤ 50
  len : d.shown.length ≤ sizeLine
def rRepr (K : PySem.W.Frag) : List V → Hp → VK → Prop := fun xs H Q => ∃ v d, xs = [v] ∧ Dp K H v d ∧ Short d ∧ Q (.str d.shown) H
theorem call_repr {X : Cx} (g : Free X.A) (hu : X.A.units + 64 < cLine) : CallR X (.builtin "repr") (rRepr X.K) := by
  intro pins s σ H xs us Q I r h
  obtain ⟨v, d, rfl, hd, S, q⟩ := h
  obtain ⟨u, rfl, ru⟩ := vals1 r
  obtain ⟨as, rd⟩ := Dp.reads I d v u hd ru
  have fin : ∀ (a : Addr), Reads s.heap (.ref a) d as → wpAny (model X.prog X.w) X.A (call (.builtin "repr") [.ref a]) (EP X pins σ Q) X.xe s := fun a ra => by
    have dp := S.dp
    refine repr_of_reads' ra S.sh (PyData.noDict_hsm S.nd) g (by omega) (fun _ _ z => z) ?_ S.len
    intro h' t tk kept
    exact ⟨.str d.shown, H, I.kept kept, ⟨_, rfl⟩, q⟩
  cases rd with
  | none => exact PySem.P.repr_of_none ⟨.str _, H, I.tok _, ⟨_, rfl⟩, q⟩
  | bool b => exact PySem.P.repr_of_bool ⟨.str _, H, I.tok _, ⟨_, rfl⟩, q⟩
  | int i t => exact PySem.P.repr_of_int (by have z := S.sh; simpa [PyData.showable] using z) ⟨.str _, H, I.tok _, ⟨_, rfl⟩, q⟩
  | str x t => exact PySem.P.repr_of_str ⟨.str _, H, I.tok _, ⟨_, rfl⟩, q⟩ S.len
  | list h1 h2 h3 h4 => exact fin _ (.list h1 h2 h3 h4)
  | tuple h1 h2 h3 h4 => exact fin _ (.tuple h1 h2 h3 h4)
  | dict h1 h2 h3 h4 h5 => exact absurd S.nd (by simp [PyData.hasDict])
/-- small ints, texts of up to a million signs in all -/
theorem Short.of {d : PyData} (h1 : d.showable = true) (h2 : d.hasDict = false) (h3 : d.depth ≤ 50) (h4 : d.leavesShort 13 = true) (h5 : d.bulk ≤ 2 ^ 20) : Short d :=
  ⟨h1, h2, h3, PyData.shown_fits_bulk (by decide) (by decide) h4 h5⟩
theorem log_small {i : Int} (h : i.natAbs < 10 ^ 12) : i.natAbs.log2 < 1920 := by
  by_cases z : i.natAbs = 0
  · rw [z]; decide
  · have := (Nat.log2_lt z (k := 1920)).mpr (Nat.lt_trans h (by decide))
    exact this
theorem leaf_small {i : Int} (h : i.natAbs < 10 ^ 12) : (PyData.shown (.int i)).length ≤ 13 := PyData.shown_int_le (by simpa using h)
/-- an int below 10 ^ 12 in size -/
def Sm (i : Int) : Prop := i.natAbs < 10 ^ 12
theorem Sm.of {i : Int} (h1 : -1000000000 ≤ i) (h2 : i ≤ 1000000000) : Sm i := by
  have e : (10 : Nat) ^ 12 = 1000000000000 := by decide
  unfold Sm
  rw [e]
  omega
/-! ### two values of one repr -/
def spAlike (K : PySem.W.Frag) : Sp := fun vs H Q _ => ∃ x y d, vs = [x, y] ∧ Dp K H x d ∧ Dp K H y d ∧ Short d ∧ Q (.bl true) H
end LB

set_option maxRecDepth 100000
set_option maxHeartbeats 2000000
namespace LB
open PySem PySem.Spec PyProof.Rows L2
/-! ### the end of a law's row whose def is told of free places alone -/
section
variable {P : Program} {w : World} {K : PySem.W.Frag} {mg mb : Str → Option Value} {CX : CXT} {k : Nat} {fa a : Addr} {fd : FuncData} {x : Str} {sp : Sp} {z : Shared} {us : List Value} {ns : List Int}
/-- what law answers, from a heap H that tracks the script at most -/
theorem answer_from {H : Hp} (g : z.gens = #[]) (only : Only H) (alone : ∀ b, H b ≠ none → b = a) (isL : ∃ d n, (z.heap.get? a).map Obj.data = some (.seq d n)) (kin : K.In z.heap) (apart : H a ≠ none → K.lookup a = none)
    (ng : z.heap.Ns mainGlobals mg) (nb : z.heap.Ns builtinsNs mb) (boot : ∀ y : Str, y ≠ "__name__" → mb y = bootBuiltins y) (nolim : z.heap.NoLimit) (hok : HOk P w H z.heap) (room : Room k callerA)
    (F : ∀ b : Heap, K.In b → b.Ns mainGlobals mg → FnG P w K mg b CX k fa fd [x] sp) (binds : ∀ (s : Shared) (u : Value), BindsTo s fd ⟨[u], []⟩ [(x, u)])
    (want : sp [.ref a] H (fun v _ => v = .bl true) fun _ _ _ => False) (calm : ∀ e s', CX [] H z (fun _ _ _ => False) e s' → False) :
    codeAny (model P w) callerA (.call (.ref fa) ⟨[.ref a], []⟩) (fun r s' => r = .ok (.ret (.bool true)) ∧ OldK z.heap s'.heap ∧ s'.os = z.os ∧ AllBare s'.gens) z := by
  have dictFree : ∀ {b : Addr} {o : Obj} {es : Array DictEntry} {n : Nat}, z.heap.get? b = some o → o.data = .dict es n → H b = none := by
    intro b o es n at_ da
    by_cases q : H b = none
    · exact q
    · have eb := alone b q
      subst eb
      obtain ⟨d, m, e⟩ := isL
      rw [at_] at e
      have e2 := Option.some.inj e
      rw [da] at e2
      cases e2
  have moved : ∀ {b : Addr} {m : Str → Option Value}, z.heap.Ns b m → (hidT z.heap H).Ns b m := by
    rintro b m ⟨o, es, n, at_, da, r⟩
    exact ⟨o, es, n, hidT_get at_ (dictFree at_ da), da, r⟩
  have kin2 : K.In (hidT z.heap H) := by
    intro b o at_
    refine hidT_get (kin b o at_) ?_
    by_cases q : H b = none
    · exact q
    · have eb := alone b q
      subst eb
      rw [apart q] at at_
      cases at_
  obtain ⟨mc, c1, c2⟩ := nolim
  have e0 : Env0 P w K mg (hidT z.heap H) callerA [] z H :=
    { frames := rfl, mod := ⟨kin2, moved ng, ⟨mb, moved nb, boot⟩, ⟨mc, moved c1, c2⟩⟩, bs := fun _ _ at_ => of_hidT at_, bsz := Nat.le_of_eq (hidT_size _ _), funs := trivial,
      frf := fun b hb => absurd (show b ∈ ([] : List Addr) from hb) List.not_mem_nil, hok := hok, bare := .of_eq g }
  refine codeAny_mono ((F _ kin2 (moved ng)).goes callerA [] z H ⟨[.ref a], []⟩ [.ref a] [.ref a] _ _ rfl room e0 (binds z (.ref a)) (.cons rfl .nil) want) ?_
  intro r s' out
  match r, out with
  | .error e, out => exact (calm e s' out).elim
  | .ok .next, out => exact False.elim out
  | .ok .brk, out => exact False.elim out
  | .ok .cont, out => exact False.elim out
  | .ok (.ret u), out =>
    obtain ⟨v, H', os, bare, un, hok', r', q⟩ := out
    have q' : v = .bl true := q
    subst q'
    have eu : u = Value.bool true := r'
    subst eu
    refine ⟨rfl, OldK.of_keep ?_, os, bare⟩
    intro b o at_
    by_cases q : H b = none
    · exact un.keep b o at_ q (fun y => absurd (show b ∈ ([] : List Addr) from y) List.not_mem_nil) List.not_mem_nil
    · rcases only b with y | ⟨ob, xs, y⟩
      · exact absurd y q
      · obtain ⟨e1, _⟩ := hok b _ y
        obtain ⟨e2, _⟩ := hok' b _ (un.frzs b ob _ y)
        rw [at_] at e1
        cases e1
        exact e2
end
theorem walk_free {l : PySem.W.OpenLaw} {n k : Nat} {q : Program} {loose : List Str} {XP : (Str → Option Value) → Heap → Prop} {YP : World → Heap → Prop} {d : DefRec} {K : Params → PySem.W.Frag} {CX : CXT} {sp : PySem.W.Frag → Sp} {x : Str}
    (most : l.most = some n) (small : n ≤ sizeLine) (plain : d.params.defaults = []) (room : Room k callerA) (hY : ∀ (w : World) (h : Heap), YP w h → (K w.params).In h)
    (F : ∀ (w : World) (mg : Str → Option Value) (fa : Addr) (h : Heap), (K w.params).In h → h.Ns mainGlobals mg → mg d.name = some (.ref fa) →
      ∃ fd : FuncData, (∀ (s : Shared) (u : Value), BindsTo s fd ⟨[u], []⟩ [(x, u)]) ∧ ∀ base : Heap, (K w.params).In base → base.Ns mainGlobals mg → FnG l.prog w (K w.params) mg base CX k fa fd [x] (sp (K w.params)))
    (want : ∀ (K : PySem.W.Frag) (H : Hp) (a : Addr) (ns : List Int), ns.length ≤ n → (∀ i ∈ ns, Builtin.Int.intBits i ≤ 1048576) → SqL K H a (ns.map V.int) → sp K [.ref a] H (fun v _ => v = .bl true) fun _ _ _ => False)
    (calm : ∀ (H : Hp) (s : Shared) (e : Value) (s' : Shared), CX [] H s (fun _ _ _ => False) e s' → False) :
    PySem.W.WalkO q loose XP YP l.row.toRowW d [] (fun f vs => PySem.call f vs) := by
  refine Att.attach_callB most plain ?_
  intro w s₀ z mg mb fa o pm cd doc a us ns G Y ho hd hcd hmg at_ nums len bits g
  have kin := hY w _ Y
  obtain ⟨fd, hb, hF⟩ := F w mg fa _ kin G.T.g hmg
  have vals := vals_ints nums
  have lenU : us.length = ns.length := nums.length
  have lenS : (ns.map V.int).length ≤ sizeLine := by rw [List.length_map]; exact Nat.le_trans len small
  have isL : ∃ d n, (z.heap.get? a).map Obj.data = some (.seq d n) := ⟨us.toArray, _, by rw [at_]; rfl⟩
  cases lk : (K w.params).lookup a with
  | some ob =>
    have eo := kin a ob lk
    rw [at_] at eo
    cases eo
    refine answer_from (H := fun _ => none) g (fun _ => .inl rfl) (fun b y => absurd rfl y) isL kin (fun y => absurd rfl y) G.T.g G.T.b G.T.builtins G.T.nolimit (fun b u y => by cases (show (none : Option HO) = some u from y)) room hF hb ?_ fun e s' => calm _ z e s'
    exact want _ _ a ns len bits (.inr ⟨_, us.toArray, _, lk, rfl, rfl, rfl, by simpa [lenU] using lenS, by simpa using vals⟩)
  | none =>
    let S : HO := .frz { cls := .type "list", data := .seq us.toArray } (.lst (ns.map V.int))
    have yes : upd (fun _ => none) a S a = some S := upd_same
    have no : ∀ b, b ≠ a → upd (fun _ => none) a S b = none := fun b hb => by rw [upd_ne hb]
    refine answer_from (H := upd (fun _ => none) a S) g (fun b => ?_) (fun b y => ?_) isL kin (fun _ => lk) G.T.g G.T.b G.T.builtins G.T.nolimit (fun b u y => ?_) room hF hb ?_ fun e s' => calm _ z e s'
    · by_cases hb : b = a
      · subst hb
        exact .inr ⟨_, _, yes⟩
      · exact .inl (no b hb)
    · exact Classical.byContradiction fun hb => y (no b hb)
    · by_cases hb : b = a
      · subst hb
        have ey := Option.some.inj (yes.symm.trans y)
        subst ey
        exact ⟨at_, lenS, us, _, vals, at_⟩
      · rw [no b hb] at y
        cases y
    · exact want _ _ a ns len bits (.inl (.inr ⟨_, yes⟩))
end LB

set_option maxRecDepth 100000
set_option maxHeartbeats 4000000
namespace LB
open PySem PySem.W PySem.Calls PyProof.Rows PySem.HandSPX
/-! ### an own error whose __init__ calls super with an f-string of a name and keeps the name -/
def eA (p1 p2 : Pos) : Arguments := { posonlyargs := [], args := [{ arg := "self", annotation := none, pos := p1 }, { arg := "name", annotation := none, pos := p2 }], vararg := none, kwonlyargs := [], kw_defaults := [], kwarg := none, defaults := [] }
def eB (tx : String) (k0 : Nat) (q1 q2 q3 q4 q5 q6 q7 q8 q9 q10 q11 q12 q13 : Pos) : List Stmt :=
  [.Expr (.Call (.Attribute (.Call (.Name "super" q1) [] [] q2) "__init__" q3) [.JoinedStr [.FormattedValue (.Name "name" q4) (-1) none q5, .Constant (.str tx) k0 q6] q7] [] q8) q9,
   .Assign [.Attribute (.Name "self" q10) "name" q11] (.Name "name" q12) q13]
def eS : Scope := { kind := .function, names := [(PySem.Str.ofString "self", .local), (PySem.Str.ofString "name", .local), (PySem.Str.ofString "__class__", .free), (PySem.Str.ofString "super", .globalImplicit)], isGenerator := false, isCoroutine := false, more := [] }
abbrev veMro : List Value := [.type "ValueError", .type "Exception", .type "BaseException", .type "object"]
/-- what the written part says of the class named n, at C, and of its __init__, at fI -/
structure Oor (K : Frag) (mg : Str → Option Value) (prog : Program) (n : Str) (C fI cc cda : Addr) : Prop where
  gC : mg n = some (.ref C)
  cls : ∃ nm q N bs bm sn sub ab col dd k0 k1 k2 k3 k5, K.lookup C = some (excClassObj nm q C N bs bm true sn sub ab col dd k0 k1 k2 k3 k5 "ValueError.__new__") ∧ refsVE bm = true
  sa : findIn K (.ref C) "__setattr__" = some (some (.builtin "object.__setattr__"))
  ga : findIn K (.ref C) "__getattribute__" = some (some (.builtin "BaseException.__getattribute__"))
  gg : findIn K (.ref C) "__getattr__" = some none
  noN : findIn K (.ref C) "name" = some none
  iC : findIn K (.ref C) "__init__" = some (some (.ref fI))
  tC : typeIn K (.ref fI) = some (.type "function")
  kC : keepIn K (.ref C) = true
  exC : subIn K (.ref C) (.type "BaseException") = some true
  veC : subIn K (.ref C) (.type "ValueError") = some true
  tyC : typeIn K (.ref C) = some (.type "type")
  hdC : hasDictIn K C = true
  me : mroIn K C (.ref C) = some true
  up : ks_superIn K C C "__init__" = some (some (.builtin "ValueError.__init__"))
  made : excInitIn K C veMro "ValueError.__new__" = true
  op : nsIn K cStatics "thirdparty.any" = some none
  mgS : mg "super" = none
  top : (prog.main.scope.names.lookup ("super" : Str)).isSome = false
  cell : ∃ (cl : Value) (cld : Option Addr) (csl : Array (Option Value)), K.lookup cc = some ⟨cl, cld, .cell (some (.ref C)), csl⟩
  code : ∃ (ccl : Value) (cdd : Option Addr) (vs : Array Value) (ccs : Array (Option Value)) (file : Str) (tf : Tok), K.lookup cda = some ⟨ccl, cdd, .fields vs, ccs⟩ ∧ vs[2]? = some (.str file tf) ∧ ((prog.main.file : Str) == file) = true
  fn : ∃ (oc : Value) (od : Option Addr) (q : Str) (doc pm : Value) (an : Option Addr) (ct : Value) (osl : Array (Option Value)) (tx : String) (k0 : Nat) (p1 p2 q1 q2 q3 q4 q5 q6 q7 q8 q9 q10 q11 q12 q13 : Pos),
    K.lookup fI = some ⟨oc, od, .func (ksFn "__init__" q (eA p1 p2) (eB tx k0 q1 q2 q3 q4 q5 q6 q7 q8 q9 q10 q11 q12 q13) eS .none .none doc pm an (.ref cda) ct cc), osl⟩ ∧ codeIn K (.ref cda) q = true ∧ (Str.ofString tx).length ≤ 1000 ∧ (q3.endLine == q8.line) = true
/-- what __init__ leaves of a fresh error at x -/
structure ErrEnd (h h' : Heap) (x C dx : Addr) (v : Value) : Prop where
  keep : ∀ b o, b ≠ x → h.get? b = some o → h'.get? b = some o
  obj : ∃ t1 : Addr, h'.get? x = some { cls := .ref C, dict := some dx, data := .fields #[.ref t1, .none, .none, .none, .bool false, .none] }
  dbig : h.objs.size ≤ dx
  dne : dx ≠ x
  ns : h'.Ns1 dx (fun y => if y = "name" then some v else none)
section
variable {prog : Program} {w : World} {A : Around} {R : Result → Shared → Prop} {s : Shared} {K : Frag} {mg : Str → Option Value} {n : Str} {C fI cc cda : Addr}
theorem err_init (T : Oor K mg prog n C fI cc cda) {base : Heap} {x t0 : Addr} {z : Str} {zt : Tok} (kb : K.In base) (gb : base.Ns mainGlobals mg) (bb : ∃ mb, base.Ns builtinsNs mb ∧ ∀ y : Str, y ≠ "__name__" → mb y = bootBuiltins y)
    (bk : ∀ b o, base.get? b = some o → s.heap.get? b = some o) (bsz : base.objs.size ≤ s.heap.objs.size) (nx : base.get? x = none) (lim : s.heap.NoLimit) (hx : s.heap.get? x = some (excO C t0)) (hz : z.length ≤ 1000) (room : A.depth < recursionLimit)
    (hq : ∀ h' tk dx zt', ErrEnd s.heap h' x C dx (.str z zt') → R (.ok (.ret .none)) { s with heap := h', toks := tk }) :
    codeAny (model prog w) A (.call (.ref fI) ⟨[.ref x, .str z zt], []⟩) R s := by
  obtain ⟨oc, od, q, doc, pm, an, ct, osl, tx, k0, p1, p2, q1, q2, q3, q4, q5, q6, q7, q8, q9, q10, q11, q12, q13, ho, hcd, htx, hln⟩ := T.fn
  obtain ⟨nm, qn, N0, bs, bm, sn, sub, ab, col, dd, e0, e1, e2, e3, e5, hC, hbm⟩ := T.cls
  have hcl : clsIn K C = some { name := nm, bases := bs, mro := .ref C :: bm, ns := N0, qualname := qn, hasDict := true, slotNames := sn, subclasses := sub, abstract := ab, collection := col, hasDel := false } := by unfold clsIn; rw [hC] <;> rfl
  obtain ⟨cl, cld, csl, hcell⟩ := T.cell
  obtain ⟨ccl, cdd, vs, ccs, file, tf, hcode, hvs, hfile⟩ := T.code
  obtain ⟨mb, hmb, hboot⟩ := bb
  have X : K.In s.heap := kb.keeps bk
  obtain ⟨hp, g, dr, tk, os⟩ := s
  refine ks_codeAny_call_defAt (fd := ksFn "__init__" q (eA p1 p2) (eB tx k0 q1 q2 q3 q4 q5 q6 q7 q8 q9 q10 q11 q12 q13) eS .none .none doc pm an (.ref cda) ct cc) (body := eB tx k0 q1 q2 q3 q4 q5 q6 q7 q8 q9 q10 q11 q12 q13) (binds := [("self", .ref x), ("name", .str z zt)])
    room (X _ _ ho) rfl lim (codeRec_of X hcd) rfl (BindsTo.of_eq (by first | rfl | with_unfolding_all rfl)) (show ∀ y ∈ eS.names, y.2 ≠ .cell from by decide +kernel) (show ∀ y ∈ [(("self" : Str), Value.ref x), (("name" : Str), Value.str z zt)], eS.names.lookup y.1 = some .local from locs rfl) (fun h₁ hns hk₁ => ?_) rfl rfl rfl
  have X₁ : K.In h₁ := X.keeps hk₁
  have hx₁ := hk₁ _ _ hx
  have hxL : x ≠ hp.objs.size := Nat.ne_of_lt (Heap.lt_size hx)
  have inG : ∀ b o, base.get? b = some o → (hp.hide x).get? b = some o := fun b o e => (Heap.hide_ne hp (fun z => by rw [z, nx] at e; cases e)).trans (bk b o e)
  have kG : K.In (hp.hide x) := kb.keeps inG
  have F₁ : Fr (hp.hide x) hp.objs.size h₁ _ := ⟨hns, fun b o e => hk₁ b o (Heap.of_hide e), Nat.le_of_eq (Heap.hide_size hp x)⟩
  have N₁ : News (hp.hide x) hp.objs.size h₁ [(x, excObj C t0 none .none)] := fun p hp' => by
    have e := List.mem_singleton.mp hp'
    subst e
    exact ⟨hx₁, hxL, Heap.hide_self hp x⟩
  refine ks_wpAt_execs_cons (ks_wpAt_Expr_any ?_)
  refine ks_wpAt_MethodCall (pl := (do return (← importBound _ _).getD true)) ?_ (he := by
    show (do
      let ov ← attributeBase _ _ _ _
      standAt q3.atName
      methodCall _ _ q3 q8 _ ov _ _ _) = _
    simp only [methodCall, methodCallPos, hln, Bool.or_true, if_true, pure_bind]
    rfl)
  refine ks_wpAt_super_base (f := fI) (cc := cda) (by first | rfl | decide +kernel) (by first | rfl | decide +kernel) (by decide +kernel) rfl (X₁ _ _ ho) rfl rfl rfl (X₁ _ _ hcode) rfl hvs hfile T.top ?_
  refine ks_loadName_global rfl (by first | rfl | decide +kernel) (loadGlobal_builtin (gb.keeps fun b o e => F₁.keep b o (inG b o e)) T.mgS (hmb.keeps fun b o e => F₁.keep b o (inG b o e)) ((hboot _ (by decide +kernel)).trans PyProof.Rows.Boot.«super») ⟨rfl, ?_⟩)
  refine wpAny_loadName_free rfl (by first | rfl | decide +kernel) rfl ⟨_, X₁ _ _ hcell, rfl⟩ ?_
  refine wpAny_loadName_local rfl (by first | rfl | decide +kernel) hns (show _ = some (Value.ref x) from by first | rfl | with_unfolding_all rfl | kernel_rfl) ?_
  refine ks_wpAny_isType_cls (X₁ _ _ hC) rfl ⟨rfl, ?_⟩
  refine ks_wpAny_call_super (X₁ _ _ hC) rfl hx₁ rfl (fun c e => nomatch e) (looks_mroIn X₁ T.me) (fun h₂ e₂ k₂ => ?_)
  obtain ⟨F₂, N₂, l₂⟩ := ks_newsPush (s := ⟨h₁, g, dr, tk + 2, os⟩) F₁ N₁ rfl e₂ k₂
  refine kxs_method kxs_ValueError F₂ kG N₂ (List.mem_cons_self ..) (InstAt.of_exc0 N₂ (List.mem_cons_of_mem _ (List.mem_cons_self ..))) T.op T.up T.veC (by decide +kernel) (fun u h₃ F₃ N₃ l₃ => ?_)
  refine kxs_callWith1 N₃ (List.mem_cons_self ..) ?_ (he := rfl) (hplain := rfl)
  show wpAny _ _ (spliced ((false, eval (.JoinedStr [.FormattedValue (.Name "name" q4) (-1) none q5, .Constant (.str tx) k0 q6] q7) (ksEnv q eS hp.objs.size fI (.ref cda) cc)) :: backTo q8 (starEach [] (ksEnv q eS hp.objs.size fI (.ref cda) cc)))) _ _ _
  refine Calls.spliced_cons (wpAny_JoinedStr ?_)
  have so_u : hp.objs.size ≠ x := Ne.symm hxL
  have ux : u ≠ x := fun z => by
    have := l₃ (x, excObj C t0 none .none) (List.mem_cons_of_mem _ (List.mem_cons_self ..))
    rw [z] at this
    exact absurd this (Nat.lt_irrefl _)
  have sx : h₁.objs.size ≠ x := fun z => by
    have := l₂ (x, excObj C t0 none .none) (List.mem_cons_self ..)
    rw [z] at this
    exact absurd this (Nat.lt_irrefl _)
  have U : UpdF x (excObj C t0 none .none) [(u, kxs_mw "ValueError.__init__" x), (h₁.objs.size, ks_superObj C x C), (x, excObj C t0 none .none)] (fun o' => (u, kxs_mw "ValueError.__init__" x) :: (h₁.objs.size, ks_superObj C x C) :: (x, o') :: []) :=
    .tail ux (.tail sx (.head (by simp)))
  show Joins _ _ _ (eval (.FormattedValue (.Name "name" q4) (-1) none q5) (ksEnv q eS hp.objs.size fI (.ref cda) cc) :: evalEach [.Constant (.str tx) k0 q6] (ksEnv q eS hp.objs.size fI (.ref cda) cc)) Str.empty _ _
  have hz2 : z.length ≤ sizeLine := Nat.le_trans hz (by decide)
  have len0 : (Str.empty ++ z).length ≤ sizeLine := by
    have e1 : (Str.empty : Str).length = 0 := rfl
    rw [Str.length_append, e1, sizeLine_eq]
    omega
  refine wpAny_FormattedValue_plain (ESX.ldL (v := .str z zt) F₃.ns (by first | rfl | with_unfolding_all rfl | kernel_rfl) ?_)
  refine wpAny_formatField_str ⟨_, _, rfl, len0, ?_⟩ ⟨_, _, rfl, len0, ?_⟩ hz2
  all_goals
    have e0 : evalEach [.Constant (.str tx) k0 q6] (ksEnv q eS hp.objs.size fI (.ref cda) cc) = [eval (.Constant (.str tx) k0 q6) (ksEnv q eS hp.objs.size fI (.ref cda) cc)] := by first | rfl | simp [evalEach]
    rw [e0]
    have len : (Str.empty ++ z ++ (tx : Str)).length ≤ sizeLine := by
      have e1 : (Str.empty : Str).length = 0 := rfl
      rw [Str.length_append, Str.length_append, e1, sizeLine_eq]
      have := htx
      omega
    refine wpAny_Constant_str ⟨_, _, rfl, len, ?_⟩
    refine ⟨len, Calls.spliced_nil ⟨kxs_at N₃ (List.mem_cons_self ..), ?_⟩⟩
    refine kxs_call F₃ kG N₃ PySem.F.excBase_ValueError T.made (List.mem_cons_self ..) U (by show 1 ≤ sizeLine; decide) (fun t1 h₄ F₄ N₄ l₄ => ?_)
    have hx₄ : h₄.get? x = some (excObj C t1 none .none) := (N₄ (x, excObj C t1 none .none) (by simp)).1
    have X₄ : K.In h₄ := kG.keeps F₄.keep
    refine wpAt_of_wpAny ?_
    refine wpAny_execs_cons (plainObj_wpAny_Assign_Attribute ?_)
    refine ESX.ldL (v := .str z zt) F₄.ns (by first | rfl | with_unfolding_all rfl | kernel_rfl) (ESX.ldL (v := .ref x) F₄.ns (by first | rfl | with_unfolding_all rfl | kernel_rfl) ?_)
    refine set_plain X₄ (ox := excO C t1) (od := none) ⟨hx₄, rfl, rfl, trivial⟩ T.sa ?_
    refine exc_osa X₄ hx₄ hcl (show refsVE (.ref C :: bm) = true from hbm) rfl T.noN (fun h₅ tk₅ dx k₅ dn dne hx₅ hn₅ => ?_)
    show wpAny _ _ (execs _ _) _ _ _
    refine wpAny_execs_nil (hq h₅ tk₅ dx zt ⟨fun b o hb e => k₅ b o hb (F₄.keep b o ((Heap.hide_ne hp hb).trans e)), ⟨t1, hx₅⟩, ?_, dne, hn₅⟩)
    refine Nat.le_trans ?_ dn
    obtain ⟨oL, es, ep, hL, _⟩ := F₄.ns
    exact Nat.le_of_lt (Heap.lt_size hL)
end
end LB

set_option maxRecDepth 100000
set_option maxHeartbeats 4000000
namespace LB
open PySem PySem.W PySem.Calls PyProof.Rows PySem.HandSPX
/-- a made error at e, its own dict at d -/
structure ErrMade (h h' : Heap) (e C d : Addr) (v : Value) : Prop where
  keep : ∀ b o, h.get? b = some o → h'.get? b = some o
  new : h.objs.size ≤ e
  obj : ∃ oe vs, h'.get? e = some oe ∧ oe.cls = .ref C ∧ oe.dict = some d ∧ oe.data = .fields vs ∧ vs[1]? = some .none
  dbig : h.objs.size ≤ d
  dne : d ≠ e
  ns : h'.Ns1 d (fun y => if y = "name" then some v else none)
section
variable {prog : Program} {w : World} {A : Around} {R : Result → Shared → Prop} {s : Shared} {K : Frag} {mg : Str → Option Value} {n : Str} {C fI cc cda : Addr}
theorem err_made (T : Oor K mg prog n C fI cc cda) {base : Heap} {z : Str} {zt : Tok} (kb : K.In base) (gb : base.Ns mainGlobals mg) (bb : ∃ mb, base.Ns builtinsNs mb ∧ ∀ y : Str, y ≠ "__name__" → mb y = bootBuiltins y)
    (bk : ∀ b o, base.get? b = some o → s.heap.get? b = some o) (bsz : base.objs.size ≤ s.heap.objs.size) (lim : s.heap.NoLimit) (hz : z.length ≤ 1000) (room : A.depth + 1 < recursionLimit)
    (hq : ∀ h' tk e d zt', ErrMade s.heap h' e C d (.str z zt') → R (.ok (.ret (.ref e))) { s with heap := h', toks := tk }) :
    codeAny (model prog w) A (.call (.ref C) ⟨[.str z zt], []⟩) R s := by
  obtain ⟨nm, q, N, bs, bm, sn, sub, ab, col, dd, k0, k1, k2, k3, k5, hC, hbm⟩ := T.cls
  obtain ⟨hp, g, dr, tk, os⟩ := s
  have X : K.In hp := kb.keeps bk
  have k : ∀ b o, hp.get? b = some o → ((hp.push (kdv_tup [.str z zt])).push (excO C hp.objs.size)).get? b = some o := fun b o e => Heap.get?_push_of_some _ (Heap.get?_push_of_some _ e)
  have hget : ((hp.push (kdv_tup [.str z zt])).push (excO C hp.objs.size)).get? (hp.objs.size + 1) = some (excO C hp.objs.size) := by heap_get
  have nx : base.get? (hp.objs.size + 1) = none := Heap.get?_none_of_le (Nat.le_trans bsz (Nat.le_succ _))
  refine call_own PySem.F.excBase_ValueError (fun Y => refsVE_contains Y bm hbm) (X _ _ hC) (looks_findIn X T.iC) (fun self => bind_fn X self T.tC) (by show 1 ≤ sizeLine; decide) ?_
  refine err_init (s := ⟨(hp.push (kdv_tup [.str z zt])).push (excO C hp.objs.size), g, dr, tk, os⟩) T kb gb bb (fun b o e => k b o (bk b o e)) (Nat.le_trans (show base.objs.size ≤ hp.objs.size from bsz) (by simp only [Heap.size_push]; omega)) nx (lim.keeps k) hget hz ?_ fun h' tk' dx zt' W => ?_
  · show A.depth + 1 < recursionLimit
    exact room
  · obtain ⟨t1, hx⟩ := W.obj
    have old : ∀ b o, hp.get? b = some o → h'.get? b = some o := fun b o e => W.keep b o (Nat.ne_of_lt (Nat.lt_succ_of_lt (Heap.lt_size e))) (k b o e)
    have dn : hp.objs.size ≤ dx := by
      have y := W.dbig
      simp only [Heap.size_push] at y
      omega
    exact ⟨rfl, hq h' tk' (hp.objs.size + 1) dx zt' ⟨old, Nat.le_succ _, ⟨_, _, hx, rfl, rfl, rfl, rfl⟩, dn, W.dne, W.ns⟩⟩
end
end LB
namespace LB
open PySem PySem.Spec PyProof.Rows L2
theorem relO_name {v : V} {v' : Value} (r : RelV v v') (f : Str) : RelO (List.lookup f [(("name" : Str), v)]) (if f = "name" then some v' else none) := by
  by_cases hw : f = "name"
  · subst hw
    rw [if_pos rfl]
    have q : List.lookup ("name" : Str) [(("name" : Str), v)] = some v := by simp [List.lookup]
    rw [q]
    exact r
  · rw [if_neg hw]
    have qw : (f == ("name" : Str)) = false := by simpa using hw
    have q2 : List.lookup f [(("name" : Str), v)] = none := by simp [List.lookup, qw]
    rw [q2]
    trivial
section
variable {X : Cx} {n : Str} {C fI cc cda : Addr}
/-- Err(e), e a text of at most 1000 signs -/
def tMkErr (C : Addr) (ta : TA) : L2.St → Hp → XK → Prop := fun σ H Q => ta σ H fun vs H1 => ∃ z : Str, vs = [.str z] ∧ z.length ≤ 1000 ∧ ∀ d, H1 d = none → Q (.ref C) (some d) (upd H1 d (.xd [(("name" : Str), .str z)]))
theorem pmk_err {a : Expr} {ta : TA} {p pos : Pos} {k : Nat} (T : Oor X.K X.mg X.prog n C fI cc cda) (hr : Room k X.A) (ha : PA X [a] ta) (hg : Gl X n) (hd : (n == ("__debug__" : Str)) = false)
    (he : starEach (a :: []) X.env = (false, eval a X.env) :: starEach [] X.env := by rfl) (hpl : (backTo pos (starEach [] X.env)).any (·.1) = false := by rfl) :
    PMk X (.Call (.Name n p) [a] [] pos) (tMkErr C ta) := by
  intro pins s σ H Q I h
  refine wpAny_Call_Name_kw (ld_glob I hg T.gC ?_ hd)
  refine PySem.W.callWith_K (h₀ := X.base) I.ok.mod.kin T.kC (thn (ha.run pos pins s σ H _ I h) fun us s1 hh => ?_) he hpl
  obtain ⟨vs, H1, I1, r1, z, ev, hz, q1⟩ := hh
  subst ev
  refine ⟨I1.kIn, ?_⟩
  cases r1 with
  | cons rv rn =>
    rename_i v' us'
    cases rn
    obtain ⟨zt, rfl⟩ := rv
    show wpAny _ _ (call (.ref C) [.str z zt]) _ _ _
    have hlim := I1.nolimit
    have kin := I1.ok.mod
    have bk := I1.bk
    have bsz : X.base.objs.size ≤ s1.heap.objs.size := Nat.le_trans I1.ok.bsz I1.sz
    obtain ⟨hp, g, dr, tk, os⟩ := s1
    obtain ⟨m1, m2, m3, m4⟩ := kin
    refine wpAny_call (err_made T m1 m2 m3 bk bsz hlim hz (by have := hr.dp; omega) fun h' tk' e d zt' M => ?_)
    show MkP X pins σ Q (.ref e) ⟨h', g, dr, tk', os⟩
    obtain ⟨oe, fv, hoe, hc, hd, hdat, h1⟩ := M.obj
    have hns := M.ns
    obtain ⟨G', g1, g2⟩ := restrict h' fun b => decide (b ≠ e)
    have gk : ∀ b, b ≠ e → G'.get? b = h'.get? b := fun b hb => g1 b (decide_eq_true hb)
    have ge : G'.get? e = none := g2 e (by simp)
    have old : ∀ b o, hp.get? b = some o → G'.get? b = some o := fun b o q => (gk b (Nat.ne_of_lt (Nat.lt_of_lt_of_le (Heap.lt_size q) M.new))).trans (M.keep b o q)
    have ob : ObjOk X.prog X.w (upd H1 d (.xd [(("name" : Str), .str z)])) G' d (.xd [(("name" : Str), .str z)]) :=
      ⟨_, hns.at (fun o q => (gk d M.dne).trans q), fun f => relO_name (v := .str z) (v' := .str z zt') ⟨zt', rfl⟩ f⟩
    have J : Inv X pins σ (upd H1 d (.xd [(("name" : Str), .str z)])) ⟨G', g, dr, tk', os⟩ := I1.laid (t' := tk') old M.dbig ob
    refine ⟨e, oe, fv, ⟨G', g, dr, tk', os⟩, _, .ref C, some d, rfl, J, fun b o q => ?_, ge, hoe, ⟨hc, hd⟩, hdat, h1, ?_, rfl, I1.bare, raises_own T.exC T.tyC, q1 d (I1.hok.fresh M.dbig)⟩
    · by_cases hb : b = e
      · have q' : G'.get? b = some o := q
        rw [hb, ge] at q'; cases q'
      · exact (gk b hb).symm.trans q
    · rw [upd_ne (Ne.symm M.dne)]
      exact I1.hok.fresh M.new
/-- raise Err(e) -/
def tRaiseErr (C : Addr) (W : WX) (ta : TA) : TS := fun _ σ H => tMkErr C ta σ H fun cls d H' => W cls d σ H'
theorem ps_raiseErr {a : Expr} {ta : TA} {W : WX} {p pos pos2 : Pos} {k : Nat} (hc : X.calm = true) (T : Oor X.K X.mg X.prog n C fI cc cda) (hr : Room k X.A) (tk : Takes X W) (ha : PA X [a] ta) (hg : Gl X n) (hd : (n == ("__debug__" : Str)) = false)
    (he : starEach (a :: []) X.env = (false, eval a X.env) :: starEach [] X.env := by rfl) (hpl : (backTo pos (starEach [] X.env)).any (·.1) = false := by rfl) :
    PS X (.Raise (some (.Call (.Name n p) [a] [] pos)) none pos2) (tRaiseErr C W ta) := ps_raise hc tk (pmk_err T hr ha hg hd he hpl)
/-- e.name, e the error that the suite holds (at a; its class cls, its dict d) -/
def tErrName (C : Addr) (a : Addr) (cls : Value) (d : Option Addr) (te : TE) : TE := fun σ H Q => te σ H fun x H1 => x = .ref a ∧ cls = .ref C ∧ ∃ (dd : Addr) (v : V), d = some dd ∧ H1 dd = some (.xd [(("name" : Str), v)]) ∧ Q v H1
theorem pe_errName {a : Addr} {oe : Obj} {cls : Value} {d : Option Addr} {pn : List (Addr × Obj)} {e : Expr} {te : TE} {pos : Pos} (T : Oor X.K X.mg X.prog n C fI cc cda) (hz : Zc cls d oe) (hf : ∃ vs, oe.data = .fields vs) (he : PE (X.suite a ((a, oe) :: pn)) e te)
    (hb : attributeBase e "name" X.env (eval e X.env) = eval e X.env := by rfl) :
    PE (X.suite a ((a, oe) :: pn)) (.Attribute e "name" pos) (tErrName C a cls d te) := by
  refine ⟨fun pins s σ H Q I h => ?_⟩
  refine attr_of hb (thn (he.run pins s σ H _ I h) fun u s1 hh => ?_)
  obtain ⟨x, H1, I1, rx, ex, ec, dd, v, ed, ea, q⟩ := hh
  subst ex
  obtain rfl : u = Value.ref a := rx
  subst ec
  subst ed
  obtain ⟨ha, _⟩ := I1.pin (a, oe) (List.mem_append_left _ List.mem_cons_self)
  obtain ⟨vs, hd⟩ := hf
  have hx : ObjOk X.prog X.w H1 s1.heap dd (.xd [(("name" : Str), v)]) := I1.hok dd _ ea
  obtain ⟨mA, hns, hr⟩ := hx
  obtain ⟨od, ho, hl⟩ := lookIn_ns hns
  have l : List.lookup ("name" : Str) [(("name" : Str), v)] = some v := by simp [List.lookup]
  obtain ⟨u, hu, ru⟩ := RelO.some_of (v := v) (o := mA "name") (by rw [← l]; exact hr "name")
  have J : PySem.W.InstAt s1.heap a oe C (some od) := ⟨ha, hz.1, by unfold PySem.W.notCls; rw [hd] <;> rfl, by rw [hz.2]; exact ho⟩
  exact HandSPX.exc_get I1.kIn J T.ga T.gg T.exC (PySem.W.findObj_own T.hdC T.noN rfl (by rw [hl, hu])) (handed_of ru) ⟨v, H1, I1.tok _, ru, q⟩
/-- isinstance(e, D), e such an error, D a class: told of K -/
structure IsF (K : PySem.W.Frag) (C : Addr) : Prop where
  ha : PySem.W.findIn K (.ref C) "__class__" = some (some (.builtin "object.__class__"))
  hn : PySem.W.specialIn K (.builtin "object.__class__") "__get__" = some (some (.builtin "getset_descriptor.__get__"))
  ht : PySem.W.takesIn K (.builtin "object.__class__") = some true
  hm : PySem.W.mroIn K C (.type "object") = some true
def rIsErr (K : PySem.W.Frag) (C a : Addr) (cls : Value) (d : Option Addr) : List V → Hp → VK → Prop := fun xs H Q => ∃ (D dd : Addr) (b : Bool) (fs : List (Str × V)), xs = [.ref a, .ref D] ∧ cls = .ref C ∧ d = some dd ∧ PySem.W.kitOne K (.ref C) (.ref D) = some b ∧ H dd = some (.xd fs) ∧ Q (.bl b) H
theorem call_isErr {a : Addr} {cls : Value} {d : Option Addr} {oe : Obj} {pn : List (Addr × Obj)} (T : Oor X.K X.mg X.prog n C fI cc cda) (F : IsF X.K C) (hz : Zc cls d oe) (hf : ∃ vs, oe.data = .fields vs) : CallR (X.suite a ((a, oe) :: pn)) (.builtin "isinstance") (rIsErr X.K C a cls d) := by
  intro pins s σ H xs us Q I r h
  obtain ⟨D, dd, b, fs, rfl, rfl, rfl, e, ea, q⟩ := h
  match us, r with
  | _, .cons rx (.cons rt .nil) =>
    cases rx
    cases rt
    obtain ⟨hget, _⟩ := I.pin (a, oe) (List.mem_append.mpr (.inl List.mem_cons_self))
    obtain ⟨vs, hv⟩ := hf
    have hx : ObjOk X.prog X.w H s.heap dd (.xd fs) := I.hok dd _ ea
    obtain ⟨mA, hns, hr⟩ := hx
    obtain ⟨od, ho, hl⟩ := lookIn_ns hns
    have J : PySem.W.InstAt s.heap a oe C (some od) := ⟨hget, hz.1, by unfold PySem.W.notCls; rw [hv] <;> rfl, by rw [hz.2]; exact ho⟩
    obtain ⟨cd, hcd, _⟩ := PySem.W.any_some T.hdC
    exact PySem.W.kia_one (PySem.W.kitx_exc (od := some od) (ox := oe) (by rw [hcd]; rfl) T.ga T.gg T.exC F.ha F.hn F.ht F.hm) I.kIn J e (fun z => nomatch z) fun tk => ⟨.bl b, H, I.kept (t' := tk) fun _ _ z => z, rfl, q⟩
end
end LB

set_option maxRecDepth 100000
set_option maxHeartbeats 2000000
namespace LB
open PySem PySem.Spec PyProof.Rows L2
/-! ### data of a short repr -/
structure Td (d : PyData) (k m : Nat) : Prop where
  sh : d.showable = true
  nd : d.hasDict = false
  dp : d.depth ≤ k
  lv : d.leavesShort 13 = true
  bk : d.bulk ≤ m
structure TdA (ds : List PyData) (k m : Nat) : Prop where
  sh : PyData.showableAll ds = true
  nd : PyData.hasDictAll ds = false
  dp : PyData.depthAll ds ≤ k
  lv : PyData.leavesShortAll 13 ds = true
  bk : PyData.bulkAll ds ≤ m
theorem Td.short {d : PyData} {k m : Nat} (h : Td d k m) (hk : k ≤ 50) (hm : m ≤ 1048576) : Short d := .of h.sh h.nd (Nat.le_trans h.dp hk) h.lv (Nat.le_trans h.bk (Nat.le_trans hm (by decide)))
theorem Td.up {d : PyData} {k m k' m' : Nat} (h : Td d k m) (hk : k ≤ k') (hm : m ≤ m') : Td d k' m' := ⟨h.sh, h.nd, Nat.le_trans h.dp hk, h.lv, Nat.le_trans h.bk hm⟩
theorem TdA.up {d : List PyData} {k m k' m' : Nat} (h : TdA d k m) (hk : k ≤ k') (hm : m ≤ m') : TdA d k' m' := ⟨h.sh, h.nd, Nat.le_trans h.dp hk, h.lv, Nat.le_trans h.bk hm⟩
theorem Td.non : Td .none 0 0 := ⟨rfl, rfl, Nat.le_refl _, rfl, Nat.le_refl _⟩
theorem Td.int {i : Int} (h : Sm i) : Td (.int i) 0 0 := ⟨decide_eq_true (log_small h), rfl, Nat.le_refl _, decide_eq_true (leaf_small h), Nat.le_refl _⟩
theorem Td.str {x : Str} (h : (x.cps.toList.all fun c => decide (c < 16 ^ 8)) = true) : Td (.str x) 0 x.cps.size := ⟨rfl, rfl, Nat.le_refl _, h, Nat.le_refl _⟩
theorem TdA.nil {k : Nat} : TdA [] k 0 := ⟨rfl, rfl, Nat.zero_le _, rfl, Nat.le_refl _⟩
theorem TdA.cons {d : PyData} {ds : List PyData} {k m m' : Nat} (h : Td d k m) (r : TdA ds k m') : TdA (d :: ds) k (m + 1 + m') := by
  refine ⟨?_, ?_, ?_, ?_, ?_⟩
  · show (PyData.showable d && PyData.showableAll ds) = true
    rw [h.sh, r.sh] <;> rfl
  · show (PyData.hasDict d || PyData.hasDictAll ds) = false
    rw [h.nd, r.nd] <;> rfl
  · show max d.depth (PyData.depthAll ds) ≤ k
    have := h.dp
    have := r.dp
    omega
  · show (PyData.leavesShort 13 d && PyData.leavesShortAll 13 ds) = true
    rw [h.lv, r.lv] <;> rfl
  · show d.bulk + 1 + PyData.bulkAll ds ≤ _
    have := h.bk
    have := r.bk
    omega
theorem Td.tup {ds : List PyData} {k m : Nat} (h : TdA ds k m) : Td (.tuple ds) (k + 1) m := ⟨h.sh, h.nd, Nat.succ_le_succ h.dp, h.lv, h.bk⟩
theorem Td.lst {ds : List PyData} {k m : Nat} (h : TdA ds k m) : Td (.list ds) (k + 1) m := ⟨h.sh, h.nd, Nat.succ_le_succ h.dp, h.lv, h.bk⟩
theorem TdA.of {ds : List PyData} {k m : Nat} (h : ∀ d ∈ ds, Td d k m) : TdA ds k (ds.length * (m + 1)) := by
  induction ds with
  | nil => exact TdA.nil.up (Nat.le_refl _) (Nat.zero_le _)
  | cons d r ih =>
    refine (TdA.cons (h d (List.mem_cons_self ..)) (ih fun x hx => h x (List.mem_cons_of_mem _ hx))).up (Nat.le_refl _) ?_
    rw [List.length_cons, Nat.succ_mul]
    omega
theorem TdA.ints {ns : List Int} (h : ∀ n ∈ ns, Sm n) : TdA (ns.map PyData.int) 0 ns.length := by
  have := TdA.of (ds := ns.map PyData.int) (k := 0) (m := 0) fun d hd => by
    obtain ⟨n, hn, e⟩ := List.mem_map.mp hd
    rw [← e]
    exact .int (h n hn)
  rw [List.length_map, Nat.mul_one] at this
  exact this
theorem Td.bool {b : Bool} : Td (.bool b) 0 0 := ⟨rfl, rfl, Nat.le_refl _, (by cases b <;> decide), Nat.le_refl _⟩
end LB

set_option maxRecDepth 100000
set_option maxHeartbeats 2000000
namespace LB
/-! ### plans as trees -/
inductive Pk where
  | all | race | any | sequence
  deriving DecidableEq
inductive Kd where
  | plain (k : Pk) | pool (n : Int) | timeout (t : Int) | orelse | retry (r d : Int)
  deriving DecidableEq
/-- a node: its parts' indexes ps, in order -/
inductive Nd where
  | job (d : Int) (g : Bool) (v c : Int) (f : Option Int)
  | whole (k : Kd) (ps : List Int)
  deriving DecidableEq
inductive Pl where
  | job (d : Int) (g : Bool) (v c : Int) (f : Option Int)
  | node (k : Kd) (ps : List Pl)
def times : Kd → Int
  | .retry r _ => r + 1
  | _ => 1
def maxI (l : List Int) : Int := l.foldl max 0
mutual
def Pl.size : Pl → Nat
  | .job .. => 1
  | .node _ ps => Pl.sizeL ps + 1
def Pl.sizeL : List Pl → Nat
  | [] => 0
  | p :: r => p.size + Pl.sizeL r
end
mutual
def Pl.depth : Pl → Int
  | .job .. => 1
  | .node _ ps => 1 + maxI (Pl.depthL ps)
def Pl.depthL : List Pl → List Int
  | [] => []
  | p :: r => p.depth :: Pl.depthL r
end
mutual
def Pl.runs : Pl → Int
  | .job .. => 1
  | .node k ps => times k * (Pl.runsL ps).sum
def Pl.runsL : List Pl → List Int
  | [] => []
  | p :: r => p.runs :: Pl.runsL r
end
mutual
def Pl.clean : Pl → Int
  | .job _ _ _ c _ => c
  | .node _ ps => maxI (Pl.cleanL ps)
def Pl.cleanL : List Pl → List Int
  | [] => []
  | p :: r => p.clean :: Pl.cleanL r
end
theorem depthL_map : ∀ ps : List Pl, Pl.depthL ps = ps.map Pl.depth
  | [] => by rw [Pl.depthL]; rfl
  | p :: r => by rw [Pl.depthL, depthL_map r]; rfl
theorem runsL_map : ∀ ps : List Pl, Pl.runsL ps = ps.map Pl.runs
  | [] => by rw [Pl.runsL]; rfl
  | p :: r => by rw [Pl.runsL, runsL_map r]; rfl
theorem cleanL_map : ∀ ps : List Pl, Pl.cleanL ps = ps.map Pl.clean
  | [] => by rw [Pl.cleanL]; rfl
  | p :: r => by rw [Pl.cleanL, cleanL_map r]; rfl
theorem size_pos (p : Pl) : 0 < p.size := by
  cases p <;> simp [Pl.size]
/-- the indexes of the last nodes of the trees, the first tree's first node at o -/
def roots (o : Nat) : List Pl → List Int
  | [] => []
  | p :: r => ((o + p.size - 1 : Nat) : Int) :: roots (o + p.size) r
mutual
def Pl.flat (o : Nat) : Pl → List Nd
  | .job d g v c f => [.job d g v c f]
  | .node k ps => Pl.flatL o ps ++ [.whole k (roots o ps)]
def Pl.flatL (o : Nat) : List Pl → List Nd
  | [] => []
  | p :: r => p.flat o ++ Pl.flatL (o + p.size) r
end
mutual
theorem flat_length (o : Nat) : ∀ p : Pl, (p.flat o).length = p.size
  | .job .. => by simp [Pl.flat, Pl.size]
  | .node k ps => by
    have h := flatL_length o ps
    simp [Pl.flat, Pl.size, h]
theorem flatL_length (o : Nat) : ∀ ps : List Pl, (Pl.flatL o ps).length = Pl.sizeL ps
  | [] => by simp [Pl.flatL, Pl.sizeL]
  | p :: r => by
    have h := flat_length o p
    have h2 := flatL_length (o + p.size) r
    simp [Pl.flatL, Pl.sizeL, h, h2]
end
theorem sizeL_app : ∀ A B : List Pl, Pl.sizeL (A ++ B) = Pl.sizeL A + Pl.sizeL B
  | [], B => by simp [Pl.sizeL]
  | p :: r, B => by
    have h := sizeL_app r B
    simp only [List.cons_append, Pl.sizeL]
    omega
theorem flatL_app : ∀ (A B : List Pl) (o : Nat), Pl.flatL o (A ++ B) = Pl.flatL o A ++ Pl.flatL (o + Pl.sizeL A) B
  | [], B, o => by simp [Pl.flatL, Pl.sizeL]
  | p :: r, B, o => by
    have h := flatL_app r B (o + p.size)
    have e : o + p.size + Pl.sizeL r = o + (p.size + Pl.sizeL r) := by omega
    simp only [List.cons_append, Pl.flatL, Pl.sizeL, h, e, List.append_assoc]
theorem roots_app : ∀ (A B : List Pl) (o : Nat), roots o (A ++ B) = roots o A ++ roots (o + Pl.sizeL A) B
  | [], B, o => by simp [roots, Pl.sizeL]
  | p :: r, B, o => by
    have h := roots_app r B (o + p.size)
    have e : o + p.size + Pl.sizeL r = o + (p.size + Pl.sizeL r) := by omega
    simp only [List.cons_append, roots, Pl.sizeL, h, e]
theorem roots_length : ∀ (A : List Pl) (o : Nat), (roots o A).length = A.length
  | [], o => rfl
  | p :: r, o => by simp [roots, roots_length r]
theorem sizeL_one (p : Pl) : Pl.sizeL [p] = p.size := by simp [Pl.sizeL]
theorem flatL_one (o : Nat) (p : Pl) : Pl.flatL o [p] = p.flat o := by simp [Pl.flatL]
/-- a whole out of the last trees: one node more -/
theorem flatL_join (A B : List Pl) (k : Kd) : Pl.flatL 0 (A ++ [Pl.node k B]) = Pl.flatL 0 (A ++ B) ++ [Nd.whole k (roots (Pl.sizeL A) B)] := by
  rw [flatL_app, flatL_app, flatL_one, Pl.flat, Nat.zero_add, List.append_assoc]
theorem roots_join (A B : List Pl) (k : Kd) : roots 0 (A ++ [Pl.node k B]) = roots 0 A ++ [((Pl.sizeL (A ++ B) : Nat) : Int)] := by
  rw [roots_app, sizeL_app]
  show _ ++ [((0 + Pl.sizeL A + (Pl.node k B).size - 1 : Nat) : Int)] = _
  rw [show 0 + Pl.sizeL A + (Pl.node k B).size - 1 = Pl.sizeL A + Pl.sizeL B by rw [Pl.size]; omega]
/-! ### bounds -/
def KdOk : Kd → Nat → Prop
  | .plain _, n => 1 ≤ n ∧ n ≤ 6
  | .pool m, n => 1 ≤ n ∧ n ≤ 6 ∧ 1 ≤ m ∧ m ≤ 6
  | .timeout t, n => n = 1 ∧ 0 ≤ t ∧ t ≤ 1000
  | .orelse, n => n = 2
  | .retry r d, n => n = 1 ∧ 0 ≤ r ∧ r ≤ 5 ∧ 0 ≤ d ∧ d ≤ 100
def JobOk (d v c : Int) (f : Option Int) : Prop := (0 ≤ d ∧ d ≤ 1000) ∧ (0 ≤ v ∧ v ≤ 999) ∧ (0 ≤ c ∧ c ≤ 100) ∧ ∀ x, f = some x → 0 ≤ x ∧ x ≤ 999
inductive OkP : Pl → Prop where
  | job {d : Int} {g : Bool} {v c : Int} {f : Option Int} (h : JobOk d v c f) : OkP (.job d g v c f)
  | node {k : Kd} {ps : List Pl} (hk : KdOk k ps.length) (h : ∀ p ∈ ps, OkP p) : OkP (.node k ps)
/-! ### the greatest of some -/
theorem foldl_max_le {l : List Int} : ∀ {a m : Int}, a ≤ m → (∀ x ∈ l, x ≤ m) → l.foldl max a ≤ m := by
  induction l with
  | nil => intro a m h _; exact h
  | cons x r ih =>
    intro a m h hx
    exact ih (Int.max_le.mpr ⟨h, hx x (List.mem_cons_self ..)⟩) fun y hy => hx y (List.mem_cons_of_mem _ hy)
theorem le_foldl_max {l : List Int} : ∀ {a : Int}, a ≤ l.foldl max a ∧ ∀ x ∈ l, x ≤ l.foldl max a := by
  induction l with
  | nil => intro a; exact ⟨Int.le_refl _, by simp⟩
  | cons x r ih =>
    intro a
    obtain ⟨h1, h2⟩ := ih (a := max a x)
    refine ⟨Int.le_trans (Int.le_max_left ..) h1, fun y hy => ?_⟩
    rcases List.mem_cons.mp hy with e | hy
    · rw [e]; exact Int.le_trans (Int.le_max_right ..) h1
    · exact h2 y hy
theorem maxI_le {l : List Int} {m : Int} (h : 0 ≤ m) (hx : ∀ x ∈ l, x ≤ m) : maxI l ≤ m := foldl_max_le h hx
theorem le_maxI {l : List Int} {x : Int} (h : x ∈ l) : x ≤ maxI l := le_foldl_max.2 x h
theorem maxI_nn (l : List Int) : 0 ≤ maxI l := le_foldl_max.1
theorem maxI_mem {l : List Int} (hl : l ≠ []) (hn : ∀ x ∈ l, 0 ≤ x) : maxI l ∈ l := by
  have key : ∀ (l : List Int) (a : Int), l.foldl max a = a ∨ l.foldl max a ∈ l := by
    intro l
    induction l with
    | nil => intro a; exact .inl rfl
    | cons x r ih =>
      intro a
      rcases ih (max a x) with h | h
      · show r.foldl max (max a x) = a ∨ _
        rw [h]
        by_cases c : a ≤ x
        · exact .inr (by show r.foldl max (max a x) ∈ x :: r; rw [h, Int.max_eq_right c]; exact List.mem_cons_self ..)
        · exact .inl (Int.max_eq_left (by omega))
      · exact .inr (List.mem_cons_of_mem _ h)
  rcases key l 0 with h | h
  · cases l with
    | nil => exact absurd rfl hl
    | cons x r =>
      have h1 : x ≤ maxI (x :: r) := le_maxI (List.mem_cons_self ..)
      have h2 := hn x (List.mem_cons_self ..)
      have h3 : maxI (x :: r) = 0 := h
      have : x = 0 := by omega
      rw [h3, ← this]
      exact List.mem_cons_self ..
  · exact h
/-- the greatest, told by what it is -/
theorem maxI_eq {l : List Int} {m : Int} (hm : m ∈ l) (hx : ∀ x ∈ l, x ≤ m) (h0 : 0 ≤ m) : maxI l = m := Int.le_antisymm (maxI_le h0 hx) (le_maxI hm)
theorem maxI_app (l r : List Int) : maxI (l ++ r) = max (maxI l) (maxI r) := by
  apply Int.le_antisymm
  · refine maxI_le (Int.le_trans (maxI_nn l) (Int.le_max_left ..)) fun x hx => ?_
    rcases List.mem_append.mp hx with h | h
    · exact Int.le_trans (le_maxI h) (Int.le_max_left ..)
    · exact Int.le_trans (le_maxI h) (Int.le_max_right ..)
  · refine Int.max_le.mpr ⟨maxI_le (maxI_nn _) fun x hx => le_maxI (List.mem_append_left _ hx), maxI_le (maxI_nn _) fun x hx => le_maxI (List.mem_append_right _ hx)⟩
theorem maxI_one {x : Int} (h : 0 ≤ x) : maxI [x] = x := Int.max_eq_right h
/-! ### sizes by the nodes' row -/
structure Row where
  deep : Int
  runs : Int
  clean : Int
def rowN (rs : List Row) (i : Int) : Row := rs.getD i.toNat ⟨0, 0, 0⟩
def rowAt (rs : List Row) : Nd → Row
  | .job _ _ _ c _ => ⟨1, 1, c⟩
  | .whole k ps => ⟨1 + maxI (ps.map fun i => (rowN rs i).deep), times k * (ps.map fun i => (rowN rs i).runs).sum, maxI (ps.map fun i => (rowN rs i).clean)⟩
def rowsOn (rs : List Row) (ns : List Nd) : List Row := ns.foldl (fun rs n => rs ++ [rowAt rs n]) rs
def Pl.row (p : Pl) : Row := ⟨p.depth, p.runs, p.clean⟩
mutual
def Pl.rows : Pl → List Row
  | .job d g v c f => [Pl.row (.job d g v c f)]
  | .node k ps => Pl.rowsL ps ++ [Pl.row (.node k ps)]
def Pl.rowsL : List Pl → List Row
  | [] => []
  | p :: r => p.rows ++ Pl.rowsL r
end
mutual
theorem rows_length : ∀ p : Pl, p.rows.length = p.size
  | .job .. => by simp [Pl.rows, Pl.size]
  | .node k ps => by have h := rowsL_length ps; simp [Pl.rows, Pl.size, h]
theorem rowsL_length : ∀ ps : List Pl, (Pl.rowsL ps).length = Pl.sizeL ps
  | [] => by simp [Pl.rowsL, Pl.sizeL]
  | p :: r => by have h := rows_length p; have h2 := rowsL_length r; simp [Pl.rowsL, Pl.sizeL, h, h2]
end
theorem rows_last (p : Pl) : p.rows[p.size - 1]? = some p.row := by
  cases p with
  | job d g v c f => simp [Pl.rows, Pl.size]
  | node k ps =>
    have h := rowsL_length ps
    rw [Pl.rows, Pl.size, List.getElem?_append_right (by omega)]
    simp [h]
theorem roots_rows : ∀ (ps : List Pl) (rs : List Row) (o : Nat) (tl : List Row), rs.length = o → (roots o ps).map (rowN (rs ++ Pl.rowsL ps ++ tl)) = ps.map Pl.row
  | [], rs, o, tl, h => rfl
  | p :: r, rs, o, tl, h => by
    have hp := size_pos p
    have ih := roots_rows r (rs ++ p.rows) (o + p.size) tl (by rw [List.length_append, rows_length, h])
    have e1 : rs ++ Pl.rowsL (p :: r) ++ tl = rs ++ p.rows ++ Pl.rowsL r ++ tl := by rw [Pl.rowsL]; simp [List.append_assoc]
    rw [e1]
    show rowN _ _ :: (roots (o + p.size) r).map _ = _
    rw [ih]
    refine congrArg (· :: r.map Pl.row) ?_
    unfold rowN
    rw [Int.toNat_natCast, List.getD_eq_getElem?_getD]
    have e2 : (rs ++ p.rows ++ Pl.rowsL r ++ tl)[o + p.size - 1]? = some p.row := by
      rw [List.append_assoc, List.append_assoc, List.getElem?_append_right (by omega), List.getElem?_append_left (by rw [rows_length]; omega)]
      rw [show o + p.size - 1 - rs.length = p.size - 1 by omega]
      exact rows_last p
    rw [e2] <;> rfl
theorem rowsOn_app (rs : List Row) (a b : List Nd) : rowsOn rs (a ++ b) = rowsOn (rowsOn rs a) b := by
  unfold rowsOn
  rw [List.foldl_append]
mutual
theorem rowsOn_flat : ∀ (p : Pl) (rs : List Row) (o : Nat), rs.length = o → rowsOn rs (p.flat o) = rs ++ p.rows
  | .job d g v c f, rs, o, h => by simp [Pl.flat, Pl.rows, rowsOn, rowAt, Pl.row, Pl.depth, Pl.runs, Pl.clean]
  | .node k ps, rs, o, h => by
    have ih := rowsOn_flatL ps rs o h
    rw [Pl.flat, rowsOn_app, ih, Pl.rows, ← List.append_assoc]
    show rs ++ Pl.rowsL ps ++ [rowAt (rs ++ Pl.rowsL ps) (.whole k (roots o ps))] = _
    refine congrArg (fun x => rs ++ Pl.rowsL ps ++ [x]) ?_
    have e := roots_rows ps rs o [] h
    rw [List.append_nil] at e
    have m : ∀ f : Row → Int, (roots o ps).map (fun i => f (rowN (rs ++ Pl.rowsL ps) i)) = ps.map fun p => f p.row := fun f => by
      have e2 := congrArg (List.map f) e
      rw [List.map_map, List.map_map] at e2
      exact e2
    show (⟨_, _, _⟩ : Row) = ⟨_, _, _⟩
    rw [m Row.deep, m Row.runs, m Row.clean, Pl.depth, Pl.runs, Pl.clean, depthL_map, runsL_map, cleanL_map]
    all_goals rfl
theorem rowsOn_flatL : ∀ (ps : List Pl) (rs : List Row) (o : Nat), rs.length = o → rowsOn rs (Pl.flatL o ps) = rs ++ Pl.rowsL ps
  | [], rs, o, h => by simp [Pl.flatL, Pl.rowsL, rowsOn]
  | p :: r, rs, o, h => by
    have h1 := rowsOn_flat p rs o h
    have h2 := rowsOn_flatL r (rs ++ p.rows) (o + p.size) (by rw [List.length_append, rows_length, h])
    rw [Pl.flatL, rowsOn_app, h1, h2, Pl.rowsL, List.append_assoc]
end
/-! ### the jobs' cleanups -/
def Nd.clean? : Nd → Option Int
  | .job _ _ _ c _ => some c
  | .whole .. => none
def cleans (ns : List Nd) : List Int := ns.filterMap Nd.clean?
mutual
theorem clean_flat : ∀ (p : Pl) (o : Nat), OkP p → p.clean = maxI (cleans (p.flat o)) ∧ 0 ≤ p.clean
  | .job d g v c f, o, h => by
    cases h with
    | job h =>
      have h0 := h.2.2.1.1
      refine ⟨?_, by rw [Pl.clean]; exact h0⟩
      rw [Pl.clean, Pl.flat]
      show c = maxI [c]
      rw [maxI_one h0]
  | .node k ps, o, h => by
    cases h with
    | node hk h =>
      have e := clean_flatL ps o h
      refine ⟨?_, by rw [Pl.clean]; exact maxI_nn _⟩
      rw [Pl.clean, Pl.flat, e]
      show _ = maxI (List.filterMap Nd.clean? (Pl.flatL o ps ++ [Nd.whole k (roots o ps)]))
      rw [List.filterMap_append]
      show maxI (cleans (Pl.flatL o ps)) = maxI (cleans (Pl.flatL o ps) ++ [])
      rw [List.append_nil]
theorem clean_flatL : ∀ (ps : List Pl) (o : Nat), (∀ p ∈ ps, OkP p) → maxI (Pl.cleanL ps) = maxI (cleans (Pl.flatL o ps))
  | [], o, h => by simp [Pl.cleanL, Pl.flatL, cleans]
  | p :: r, o, h => by
    obtain ⟨h1, h0⟩ := clean_flat p o (h p (List.mem_cons_self ..))
    have h2 := clean_flatL r (o + p.size) fun q hq => h q (List.mem_cons_of_mem _ hq)
    rw [Pl.cleanL, Pl.flatL]
    show maxI ([p.clean] ++ Pl.cleanL r) = maxI (List.filterMap Nd.clean? (p.flat o ++ Pl.flatL (o + p.size) r))
    rw [maxI_app, maxI_one h0, List.filterMap_append, h1]
    show max _ (maxI (Pl.cleanL r)) = maxI (cleans (p.flat o) ++ cleans (Pl.flatL (o + p.size) r))
    rw [maxI_app, h2]
end
end LB

set_option maxRecDepth 100000
set_option maxHeartbeats 4000000
namespace LB
open PySem PySem.Spec PyProof.Rows L2
/-! ### dicts whose keys are tuples of ints, texts, None and such tuples -/
mutual
/-- this value is this key -/
inductive KyAt (K : PySem.W.Frag) (H : Hp) : V → NestedKey → Prop
  | non : KyAt K H .non .none
  | int (i : Int) : KyAt K H (.int i) (.num i)
  | str (x : Str) : KyAt K H (.str x) (.text x)
  | tup {a : Addr} {vs : List V} {ks : List NestedKey} : SqT K H a vs → KyAll K H vs ks → KyAt K H (.ref a) (.tup ks)
inductive KyAll (K : PySem.W.Frag) (H : Hp) : List V → List NestedKey → Prop
  | nil : KyAll K H [] []
  | cons {v : V} {vs : List V} {k : NestedKey} {ks : List NestedKey} : KyAt K H v k → KyAll K H vs ks → KyAll K H (v :: vs) (k :: ks)
end
/-- tuples stay -/
def TpK (K : PySem.W.Frag) (H H' : Hp) : Prop := ∀ a xs, SqT K H a xs → SqT K H' a xs
mutual
theorem KyAt.tp {K : PySem.W.Frag} {H H' : Hp} (t : TpK K H H') : ∀ {v : V} {k : NestedKey}, KyAt K H v k → KyAt K H' v k
  | _, _, .non => .non
  | _, _, .int i => .int i
  | _, _, .str x => .str x
  | _, _, .tup h r => .tup (t _ _ h) (KyAll.tp t r)
theorem KyAll.tp {K : PySem.W.Frag} {H H' : Hp} (t : TpK K H H') : ∀ {vs : List V} {ks : List NestedKey}, KyAll K H vs ks → KyAll K H' vs ks
  | _, _, .nil => .nil
  | _, _, .cons h r => .cons (KyAt.tp t h) (KyAll.tp t r)
end
section
variable {X : Cx} {pins : List (Addr × Obj)} {σ : L2.St} {H : Hp} {s : Shared}
mutual
theorem KyAt.is (I : Inv X pins σ H s) : ∀ {v : V} {k : NestedKey} {u : Value}, KyAt X.K H v k → RelV v u → NestedIs s.heap k u
  | _, _, u, .non, r => by cases (show u = Value.none from r); exact .none
  | _, _, u, .int i, r => by obtain ⟨t, e⟩ := (show ∃ t, u = Value.int i t from r); subst e; exact .int i t
  | _, _, u, .str x, r => by obtain ⟨t, e⟩ := (show ∃ t, u = Value.str x t from r); subst e; exact .text x t
  | _, _, u, .tup (a := a) h q, r => by
    cases (show u = Value.ref a from r)
    obtain ⟨its, rv, ⟨o, h1, h2, n, h3⟩, _⟩ := I.tuple h
    exact .tup h1 h2 h3 (by simpa using KyAll.is I q rv)
theorem KyAll.is (I : Inv X pins σ H s) : ∀ {vs : List V} {ks : List NestedKey} {us : List Value}, KyAll X.K H vs ks → Vals vs us → NestedAll s.heap ks us
  | _, _, _, .nil, .nil => .nil
  | _, _, _, .cons h q, .cons r rs => .cons (KyAt.is I h r) (KyAll.is I q rs)
end
end
/-- a dict's object, by its entries -/
def NDo (w : World) (d : Addr) (xs : List (NestedKey × Addr × Value)) : HO :=
  .ext fun h => ∃ o es ep, h.get? d = some o ∧ o.ExactDict ∧ o.data = .dict es ep ∧ es.toList = xs.map fun x => (⟨x.1.hash w, .ref x.2.1, x.2.2⟩ : DictEntry)
abbrev KN (K : PySem.W.Frag) (H : Hp) : List (NestedKey × V) → List (NestedKey × Addr × Value) → Prop := Paired fun p q => p.1 = q.1 ∧ KyAt K H (.ref q.2.1) p.1 ∧ p.1.depth ≤ 8 ∧ RelV p.2 q.2.2
/-- at d stands a dict of these keys and values -/
def ND (K : PySem.W.Frag) (w : World) (H : Hp) (d : Addr) (kvs : List (NestedKey × V)) : Prop :=
  ∃ xs, H d = some (NDo w d xs) ∧ (d == sysModules) = false ∧ kvs.length ≤ sizeLine ∧ (xs.map (·.1)).Nodup ∧ KN K H kvs xs
section
variable {K : PySem.W.Frag} {w : World} {H H' : Hp} {d : Addr} {kvs : List (NestedKey × V)} {xs : List (NestedKey × Addr × Value)}
theorem KN.tp (r : KN K H kvs xs) (t : TpK K H H') : KN K H' kvs xs := Paired.mapP r fun _ _ z => ⟨z.1, z.2.1.tp t, z.2.2⟩
theorem ND.tp (D : ND K w H d kvs) (t : TpK K H H') (e : H d = H' d) : ND K w H' d kvs := by
  obtain ⟨xs, h1, h2, h3, h4, h5⟩ := D
  exact ⟨xs, e ▸ h1, h2, h3, h4, KN.tp h5 t⟩
theorem KN.val (r : KN K H kvs xs) (k : NestedKey) : RelO (valV kvs k) ((atKey xs k).map (·.2)) := by
  induction r with
  | nil => exact True.intro
  | @cons p q ps qs h t ih =>
    obtain ⟨h1, _, _, h2⟩ := h
    by_cases e : p.1 = k
    · have e' : q.1 = k := h1.symm.trans e
      have b : atKey (q :: qs) k = some q.2 := by simp [atKey, List.find?_cons, e']
      rw [valV_pos e, b]; exact h2
    · have e' : ¬ q.1 = k := fun z => e (h1.trans z)
      have b : atKey (q :: qs) k = atKey qs k := by simp [atKey, List.find?_cons, e']
      rw [valV_neg e, b]; exact ih
theorem KN.repl (r : KN K H kvs xs) (k : NestedKey) {y : V} {u : Value} (ry : RelV y u) : KN K H (kvs.map fun kv => if kv.1 = k then (kv.1, y) else kv) (xs.map (putAt k u)) := by
  induction r with
  | nil => exact .nil
  | @cons p q ps qs h t ih =>
    rw [List.map_cons, List.map_cons]
    refine .cons ?_ ih
    obtain ⟨h1, h2, h3, h4⟩ := h
    unfold putAt
    by_cases e : p.1 = k
    · rw [if_pos e, if_pos (h1.symm.trans e)]; exact ⟨h1, h2, h3, ry⟩
    · rw [if_neg e, if_neg (fun z => e (h1.trans z))]; exact ⟨h1, h2, h3, h4⟩
theorem KN.put (r : KN K H kvs xs) (k : NestedKey) {b : Addr} {y : V} {u : Value} (hb : KyAt K H (.ref b) k) (hk : k.depth ≤ 8) (ry : RelV y u) : KN K H (putK kvs k y) (storedH xs k b u) := by
  have e : (kvs.any fun kv => decide (kv.1 = k)) = (atKey xs k).isSome := by
    rw [valV_any, (KN.val r k).isSome_eq, Option.isSome_map]
  unfold putK storedH
  rw [e]
  by_cases q : (atKey xs k).isSome = true
  · rw [if_pos q, if_pos q]; exact KN.repl r k ry
  · rw [if_neg q, if_neg q]; exact Paired.snoc r ⟨rfl, hb, hk, ry⟩
end
section
variable {X : Cx} {pins : List (Addr × Obj)} {σ : L2.St} {H : Hp} {s : Shared} {d : Addr} {kvs : List (NestedKey × V)}
theorem ND.at_ (I : Inv X pins σ H s) (D : ND X.K X.w H d kvs) : (d == sysModules) = false ∧ ∃ xs, H d = some (NDo X.w d xs) ∧ KN X.K H kvs xs ∧ xs.length ≤ sizeLine ∧ s.heap.DictOfH (nestedKind X.prog X.w) d xs := by
  obtain ⟨xs, h1, h2, h3, h4, r⟩ := D
  obtain ⟨⟨o, es, ep, e1, e2, e3, e4⟩, _, _⟩ := I.hok d _ h1
  refine ⟨h2, xs, h1, r, by rw [← Paired.length r]; exact h3, o, es, ep, e1, e2, e3, e4, fun x hx => ?_, h4⟩
  have all : ∀ {l : List (NestedKey × V)} {m : List (NestedKey × Addr × Value)}, KN X.K H l m → ∀ x ∈ m, (nestedKind X.prog X.w).is s.heap x.1 x.2.1 := by
    intro l m q
    induction q with
    | nil => intro x hx; exact nomatch hx
    | @cons p q ps qs hq t ih =>
      intro x hx
      rcases List.mem_cons.mp hx with e | hx
      · subst e
        rw [← hq.1]
        exact ⟨KyAt.is I hq.2.1 rfl, hq.2.2.1⟩
      · exact ih x hx
  exact all r x hx
/-- a key -/
def IsKy (K : PySem.W.Frag) (H : Hp) (y : V) (k : NestedKey) : Prop := ∃ b, y = .ref b ∧ KyAt K H y k ∧ k.depth ≤ 8
/-- d[key] -/
def rNDget (K : PySem.W.Frag) (w : World) : R2 := fun x y H Q => ∃ d kvs k v, x = .ref d ∧ ND K w H d kvs ∧ IsKy K H y k ∧ valV kvs k = some v ∧ Q v H
theorem nd_getItem {A : Around} {E : Value → Shared → Prop} {y v : V} {k : NestedKey} {u : Value} {Q : Value → Shared → Prop} (hu : A.units + 64 < cLine) (I : Inv X pins σ H s) (D : ND X.K X.w H d kvs) (hk : IsKy X.K H y k) (hv : valV kvs k = some v) (ry : RelV y u)
    (h : ∀ w' s', Inv X pins σ H s' → RelV v w' → Q w' s') : wpAny (model X.prog X.w) A (getItem (.ref d) u) Q E s := by
  obtain ⟨hd, xs, h1, r, hl, dd⟩ := D.at_ I
  obtain ⟨b, rfl, ky, dp⟩ := hk
  cases (show u = Value.ref b from ry)
  obtain ⟨w', hw, rw'⟩ := RelO.some_of (v := v) (o := (atKey xs k).map (·.2)) (by rw [← hv]; exact KN.val r k)
  obtain ⟨p, hp, hp2⟩ := Option.map_eq_some_iff.mp hw
  refine wpAny_getItem_heap (knd := nestedKind X.prog X.w) ?_ ⟨KyAt.is I ky rfl, dp⟩ dd hp ?_
  · show A.units + 1 + 8 < cLine
    omega
  · rw [hp2]
    exact h w' _ (I.tok _) rw'
/-- key in d, key not in d -/
def rNDin (K : PySem.W.Frag) (w : World) (f : Bool → Bool) : R2 := fun y x H Q => ∃ d kvs k, x = .ref d ∧ ND K w H d kvs ∧ IsKy K H y k ∧ Q (.bl (f (valV kvs k).isSome)) H
theorem op_ndin (hu : X.A.units + 64 < cLine) : OpR X (compareOp .In) (rNDin X.K X.w id) := by
  intro pins s σ H y x u v Q I ry rx h
  obtain ⟨d, kvs, k, rfl, D, hk, q⟩ := h
  obtain ⟨hd, xs, h1, r, hl, dd⟩ := D.at_ I
  obtain ⟨b, rfl, ky, dp⟩ := hk
  cases (show u = Value.ref b from ry)
  cases (show v = Value.ref d from rx)
  refine wpAny_in_heap (knd := nestedKind X.prog X.w) ?_ ⟨KyAt.is I ky rfl, dp⟩ hd dd ?_
  · show X.A.units + 1 + 8 < cLine
    omega
  · have e := (KN.val r k).isSome_eq
    rw [Option.isSome_map] at e
    rw [← e]
    exact ⟨.bl _, H, I.tok _, rfl, q⟩
theorem op_ndnotin (hu : X.A.units + 64 < cLine) : OpR X (compareOp .NotIn) (rNDin X.K X.w not) := by
  intro pins s σ H y x u v Q I ry rx h
  obtain ⟨d, kvs, k, rfl, D, hk, q⟩ := h
  obtain ⟨hd, xs, h1, r, hl, dd⟩ := D.at_ I
  obtain ⟨b, rfl, ky, dp⟩ := hk
  cases (show u = Value.ref b from ry)
  cases (show v = Value.ref d from rx)
  refine wpAny_notIn_heap (knd := nestedKind X.prog X.w) ?_ ⟨KyAt.is I ky rfl, dp⟩ hd dd ?_
  · show X.A.units + 1 + 8 < cLine
    omega
  · have e := (KN.val r k).isSome_eq
    rw [Option.isSome_map] at e
    rw [← e]
    exact ⟨.bl _, H, I.tok _, rfl, q⟩
def tNDget (K : PySem.W.Frag) (w : World) (td ty : TE) : TE := fun σ H Q => td σ H fun x H1 => ty σ H1 fun y H2 => rNDget K w x y H2 Q
theorem pe_ndget {o i : PySem.Expr} {td ty : TE} {pos : Pos} (hu : X.A.units + 64 < cLine) (ho : PE X o td) (hi : PE X i ty) (hs : NoSl i) : PE X (.Subscript o i pos) (tNDget X.K X.w td ty) := by
  refine ⟨fun pins s σ H Q I h => ?_⟩
  refine subD_of PySem.F.slot_dict_getitem.lookup hs (thn (ho.run pins s σ H _ I h) fun u s1 ⟨x, H1, I1, rx, q1⟩ => thn (hi.run pins s1 σ H1 _ I1 q1) fun iv s2 ⟨y, H2, I2, ry, d, kvs, k, v, ex, D, hk, hv, q2⟩ => ?_)
  subst ex
  obtain rfl : u = Value.ref d := rx
  obtain ⟨_, xs, _, _, _, dd⟩ := D.at_ I2
  exact ⟨dd.typeIs, nd_getItem hu I2 D hk hv ry fun w' s3 I3 rw' => ⟨v, H2, I3, rw', q2⟩⟩
/-- d[key] = v -/
def rNDset (K : PySem.W.Frag) (w : World) : TSet := fun o i v H Q => ∃ d kvs k, o = .ref d ∧ ND K w H d kvs ∧ IsKy K H i k ∧ kvs.length < sizeLine ∧ ∀ H', (∀ b, b ≠ d → H' b = H b) → ND K w H' d (putK kvs k v) → Q H'
theorem set_nd (hu : X.A.units + 64 < cLine) : PSet X (rNDset X.K X.w) := by
  intro pins s σ H o i v ov iv u Q I ro ri rv h
  obtain ⟨d, kvs, k, rfl, D, hk, hlt, q⟩ := h
  obtain ⟨hd, xs, h1, r, hl, dd⟩ := D.at_ I
  obtain ⟨b, rfl, ky, dp⟩ := hk
  cases (show iv = Value.ref b from ri)
  cases (show ov = Value.ref d from ro)
  refine wpAny_setItem_heap (knd := nestedKind X.prog X.w) (hsz := hl) ?_ ⟨KyAt.is I ky rfl, dp⟩ dd fun h' dd' hs => ?_
  · show X.A.units + 1 + 8 < cLine
    omega
  obtain ⟨o2, es, ep, hq, h2, h3, h4, _, h5⟩ := dd'
  have tp : TpK X.K H (upd H d (NDo X.w d (storedH xs k b u))) := fun a ys q => by
    rcases q with (q | ⟨ob, q⟩) | q
    · exact .inl (.inl (by rw [upd_ne (ne_of q h1 (by intro z; cases z))]; exact q))
    · exact .inl (.inr ⟨ob, by rw [upd_ne (ne_of q h1 (by intro z; cases z))]; exact q⟩)
    · exact .inr q
  refine ⟨upd H d (NDo X.w d (storedH xs k b u)), d_write I (by rw [h1]; exact True.intro) hs ⟨o2, hq⟩ ⟨⟨o2, es, ep, hq, h2, h3, h4⟩, ⟨o2, hq⟩, fun a1 a2 z e => ?_⟩, q _ (fun c hc => upd_ne hc) ?_⟩
  · obtain ⟨o, es, ep, z1, z2⟩ := z
    exact ⟨o, es, ep, e _ z1, z2⟩
  · exact ⟨_, upd_same, hd, by have := length_putK kvs k v; omega, h5, KN.tp (KN.put r k ky dp rv) tp⟩
/-- {} -/
def tNDnew (K : PySem.W.Frag) (w : World) : TE := fun _ H Q => ∀ p, H p = none → ND K w (upd H p (NDo w p [])) p [] → Q (.ref p) (upd H p (NDo w p []))
theorem pe_ndnew {pos : Pos} : PE X (.Dict [] [] pos) (tNDnew X.K X.w) := ⟨fun pins s σ H Q I h =>
  wpAny_Dict_empty ⟨.ref s.heap.objs.size, _, I.laid (a := s.heap.objs.size) (o := NDo X.w s.heap.objs.size []) (t' := s.toks) (fun _ _ q => Heap.get?_push_of_some _ q) (Nat.le_refl _)
    ⟨⟨_, #[], 0, Heap.get?_push_size _ rfl, ⟨rfl, rfl, rfl⟩, rfl, rfl⟩, ⟨_, Heap.get?_push_size _ rfl⟩, fun a1 a2 z e => by
      obtain ⟨o, es, ep, z1, z2⟩ := z
      exact ⟨o, es, ep, e _ z1, z2⟩⟩, rfl,
    h _ (I.hok.fresh (Nat.le_refl _)) ⟨[], upd_same, beq_eq_false_iff_ne.mpr (Ne.symm (Nat.ne_of_lt I.big)), Nat.zero_le _, List.nodup_nil, .nil⟩⟩⟩
end
end LB

set_option maxRecDepth 100000
set_option maxHeartbeats 4000000
namespace PySem.W
open PySem
section
variable {prog : Program} {w : World} {A : Around} {E : Value → Shared → Prop} {s : Shared}
/-- max(a, b), the two compared where H stands -/
theorem lb_max_two {a b : Value} {Q : Value → Shared → Prop}
    (h : wpAny (model prog w) A.in1 (pyIter (.ref s.heap.objs.size)) (fun it s₂ => ∃ I fp wr G n P St H bt, it = .ref I ∧ WalksS prog w A.in1 I fp wr G n P St ∧ St 0 s₂ ∧ (∀ b ∈ fp, b < s₂.heap.objs.size) ∧ 0 < n ∧
      (∀ b o, H.get? b = some o → b ∉ wr) ∧ (∀ b o, H.get? b = some o → s₂.heap.get? b = some o) ∧ CmpIn prog w A.in1 .Gt H P bt ∧ ∀ v s', P (argBest bt (n - 1)) v → Moved wr G s₂ s' → Q v s') E
      { s with heap := s.heap.push { cls := .type "tuple", data := .seq #[a, b] } }) :
    wpAny (model prog w) A (call (.builtin "max") [a, b]) Q E s := by
  have hname : (toString "max" ++ toString ".loop" : String) = "max.loop" := by decide
  refine call_function_tree F.kind_max F.plain_max F.entry_max (F.args_max2 _ _) ?_
  show wpAny _ A.in1 (Builtin.Builtins.bindParams "max" ["key", "default"] 0 ⟨[], []⟩ >>= _) _ _ s
  refine wpAny_bind (wpAny_of_eq (show Builtin.Builtins.bindParams "max" ["key", "default"] 0 ⟨[], []⟩ = pure [none, none] from rfl) ?_)
  show wpAny _ A.in1 (newTuple [a, b] >>= _) _ _ s
  refine wpAny_bind (wpAny_newObj_type ?_)
  refine wpAny_bind (wpAny_mono h (fun it s₂ h₂ => ?_) fun _ _ e => e)
  obtain ⟨I, fp, wr, G, n, P, St, H, bt, rfl, W, hst, hfp, hn, hw, hkeep, hcmp, hQ⟩ := h₂
  refine wpAny_bind (wpAny_newObj_type ?_)
  have hSf : s₂.heap.objs.size ∉ fp := fun hm => Nat.lt_irrefl _ (hfp _ hm)
  rw [hname]
  refine wpAny_pure ⟨plainId_quiet F.plain_max_loop _, codeAny_max_loop_firstH W H hw bt hcmp s₂.heap.objs.size hSf (fresh_in hkeep) _ hn (fun b o e => Heap.get?_push_of_some _ (hkeep b o e)) (W.frame 0 s₂ _ s₂.toks hst (Nat.le_refl _) fun b _ o e => Heap.get?_push_of_some _ e) (Heap.get?_push_size _ rfl) fun v s' hP hm => ?_⟩
  exact hQ v s' hP (Moved.drop_new (tk := s₂.toks) hm (Nat.le_refl _))
theorem lb_max_data {a b : Value} {x y : PyData} {as bs : List Addr} {Q : Value → Shared → Prop} (hh : A.handled = none) (ra : Reads s.heap a x as) (rb : Reads s.heap b y bs) (al : AlikeAll [x, y]) (hu : A.units + 1 + PyData.depthAll [x, y] < cLine)
    (h : ∀ h' tk, (∀ b o, s.heap.get? b = some o → h'.get? b = some o) → Q (if dataLt x y = true then b else a) { s with heap := h', toks := tk }) : wpAny (model prog w) A (call (.builtin "max") [a, b]) Q E s := by
  have k1 : ∀ c o, s.heap.get? c = some o → (s.heap.push { cls := .type "tuple", data := .seq #[a, b] }).get? c = some o := fun c o e => Heap.get?_push_of_some _ e
  have hr : ReadsAll (s.heap.push { cls := .type "tuple", data := .seq #[a, b] }) (#[a, b] : Array Value).toList [x, y] (as ++ (bs ++ [])) := .cons (reads_keeps k1 ra) (.cons (reads_keeps k1 rb) .nil)
  have hl : (s.heap.push { cls := .type "tuple", data := .seq #[a, b] }).IsTuple s.heap.objs.size #[a, b] := ⟨_, Heap.get?_push_size _ rfl, rfl, _, rfl⟩
  refine lb_max_two (iter_tupleW (A := A.in1) (s := { s with heap := s.heap.push { cls := .type "tuple", data := .seq #[a, b] } }) hh hl fun s₂ e W st hfp hw hk => ?_)
  refine ⟨_, _, _, _, _, _, _, _, _, rfl, W, st, hfp, (by show 0 < 2; decide), hw, hk, cmpIn_gt (A := A.in1) (s := { s with heap := s.heap.push { cls := .type "tuple", data := .seq #[a, b] } }) hr al (by show A.units + 1 + _ < _; exact hu), fun v s' hP m => ?_⟩
  obtain ⟨h', tk, rfl, hk'⟩ := moved_old e rfl m
  have e1 : argBest (fun i j => dataLt (([x, y] : List PyData).getD j .none) (([x, y] : List PyData).getD i .none)) 1 = if dataLt x y = true then 1 else 0 := rfl
  have hP : (#[a, b] : Array Value)[argBest (fun i j => dataLt (([x, y] : List PyData).getD j .none) (([x, y] : List PyData).getD i .none)) 1]? = some v := hP
  rw [e1] at hP
  have q := h h' tk fun c o z => hk' c o (k1 c o z)
  by_cases c : dataLt x y = true
  · rw [if_pos c] at hP q
    cases hP
    exact q
  · rw [if_neg c] at hP q
    cases hP
    exact q
end
end PySem.W
namespace LB
open PySem PySem.Spec PyProof.Rows L2
/-! ### orders of data, the greater one of two -/
section
variable {X : Cx}
def rGtD (K : PySem.W.Frag) : R2 := fun x y H Q => ∃ d e, Dp K H x d ∧ Dp K H y e ∧ PySem.W.alike d e = true ∧ d ≠ .none ∧ d.depth ≤ 50 ∧ Q (.bl (PySem.W.dataLt e d)) H
theorem op_gtD (hu : X.A.units + 64 < cLine) : OpR X (compareOp .Gt) (rGtD X.K) := by
  intro pins s σ H x y v u Q I rx ry h
  obtain ⟨d, e, hd, he, al, nn, dp, q⟩ := h
  obtain ⟨as, r1⟩ := Dp.reads I d x v hd rx
  obtain ⟨bs, r2⟩ := Dp.reads I e y u he ry
  exact PySem.W.rcGt_alike _ _ X.A s v u _ _ r1 r2 al nn (by have := Nat.min_le_left d.depth e.depth; omega) X.prog X.w X.xe _ ⟨.bl _, H, I, rfl, q⟩
def rLtD (K : PySem.W.Frag) : R2 := fun x y H Q => ∃ d e, Dp K H x d ∧ Dp K H y e ∧ PySem.W.alike d e = true ∧ d ≠ .none ∧ d.depth ≤ 50 ∧ Q (.bl (PySem.W.dataLt d e)) H
theorem op_ltD (hu : X.A.units + 64 < cLine) : OpR X (compareOp .Lt) (rLtD X.K) := by
  intro pins s σ H x y v u Q I rx ry h
  obtain ⟨d, e, hd, he, al, nn, dp, q⟩ := h
  obtain ⟨as, r1⟩ := Dp.reads I d x v hd rx
  obtain ⟨bs, r2⟩ := Dp.reads I e y u he ry
  exact PySem.W.rcLt_alike _ _ X.A s v u _ _ r1 r2 al nn (by have := Nat.min_le_left d.depth e.depth; omega) X.prog X.w X.xe _ ⟨.bl _, H, I, rfl, q⟩
def rMax2D (K : PySem.W.Frag) : List V → Hp → VK → Prop := fun xs H Q => ∃ x y d e, xs = [x, y] ∧ Dp K H x d ∧ Dp K H y e ∧ PySem.W.AlikeAll [d, e] ∧ PyData.depthAll [d, e] ≤ 50 ∧ Q (if PySem.W.dataLt d e = true then y else x) H
theorem call_max2D (hc : X.calm = true) (hu : X.A.units + 64 < cLine) : CallR X (.builtin "max") (rMax2D X.K) := by
  intro pins s σ H xs us Q I r h
  obtain ⟨x, y, d, e, rfl, hd, he, al, dp, q⟩ := h
  obtain ⟨u, v, rfl, ru, rv⟩ := vals2 r
  obtain ⟨as, r1⟩ := Dp.reads I d x u hd ru
  obtain ⟨bs, r2⟩ := Dp.reads I e y v he rv
  refine PySem.W.lb_max_data (I.ok.hd hc) r1 r2 al (by omega) fun h' tk k => ?_
  by_cases c : PySem.W.dataLt d e = true
  · rw [if_pos c] at q ⊢
    exact ⟨_, H, I.kept k, rv, q⟩
  · rw [if_neg c] at q ⊢
    exact ⟨_, H, I.kept k, ru, q⟩
end
end LB

set_option maxRecDepth 100000
set_option maxHeartbeats 4000000
namespace LB
open PySem PySem.Spec PyProof.Rows L2
/-! ### tuple * 0, tuple * 1 -/
theorem tup_mul_one (l : Addr) (items : Array Value) (n : Nat) (dd : Option Addr) (sl : Array (Option Value)) (u : Tok) :
    Meets (Builtin.«tuple.__mul__» ⟨[.ref l, .int 1 u], []⟩) (fun _ R s => s.heap.get? l = some { cls := .type "tuple", dict := dd, data := .seq items n, slots := sl } ∧ R (.ok (.ret (Value.ref l))) s) :=
  .of_wp fun prog w A R s h => by
    obtain ⟨hp, g, d, tk, os⟩ := s
    obtain ⟨hl, h⟩ := h
    have f1 := AutoSeq1.idx_int
    wp_walk using wpAny_loadPart' hl
    repeat (first
      | (refine wpAny_ite_false (by decide) ?_; wp_walk using wpAny_loadPart' hl)
      | (refine wpAny_ite_true (by decide) ?_; wp_walk using wpAny_loadPart' hl)
      | (refine wpAny_ite_true (by simp) ?_; wp_walk using wpAny_loadPart' hl))
    exact ⟨_, rfl, h⟩
theorem tup_mul_zero (l : Addr) (items : Array Value) (n : Nat) (dd : Option Addr) (sl : Array (Option Value)) (u : Tok) (c1 : items.isEmpty = false) :
    Meets (Builtin.«tuple.__mul__» ⟨[.ref l, .int 0 u], []⟩) (fun _ R s => s.heap.get? l = some { cls := .type "tuple", dict := dd, data := .seq items n, slots := sl } ∧
      R (.ok (.ret (Value.ref s.heap.objs.size))) { s with heap := s.heap.push { cls := Value.type "tuple", data := Data.seq #[] }, toks := s.toks }) :=
  .of_wp fun prog w A R s h => by
    obtain ⟨hp, g, d, tk, os⟩ := s
    obtain ⟨hl, h⟩ := h
    have f1 := AutoSeq1.idx_int
    wp_walk using wpAny_loadPart' hl
    exact ⟨_, rfl, h⟩
def rRepA (K : PySem.W.Frag) : R2 := fun x y H Q => ∃ l k xs, x = .ref l ∧ y = .int k ∧ SqT K H l xs ∧ xs ≠ [] ∧ 0 ≤ k ∧ k ≤ 1000 ∧ xs.length ≤ 1000 ∧ (k = 1 → Q (.ref l) H) ∧
  (k ≠ 1 → ∀ p, H p = none → Q (.ref p) (upd H p (.tup (List.replicate k.toNat xs).flatten)))
theorem op_repA {X : Cx} : OpR X (binaryOp .Mult) (rRepA X.K) := by
  intro pins s σ H x y v u Q I rx ry h
  obtain ⟨l, k, xs, rfl, rfl, hT, hne, h1, h2, hz, q1, q⟩ := h
  by_cases c : 2 ≤ k
  · exact op_repT pins s σ H _ _ v u Q I rx ry ⟨l, k, xs, rfl, rfl, hT, hne, c, h2, hz, q (by omega)⟩
  cases rx
  obtain ⟨t, rfl⟩ := ry
  obtain ⟨its, r, ⟨⟨cls, dd, data, sl⟩, ho, hc, n, hd⟩, hs⟩ := I.tuple hT
  simp only at hc hd
  subst hc hd
  have hle : its.length = xs.length := r.length.symm
  have hi : its.toArray.isEmpty = false := by
    cases its with
    | nil => exact absurd (List.eq_nil_of_length_eq_zero hle.symm) hne
    | cons a b => rfl
  by_cases c1 : k = 1
  · subst c1
    exact wpAny_binaryOp_repeat_ref (T := "tuple") (U := "int") (by decide) ⟨_, ho, rfl⟩ (fun s' => typeIs_int s' 1 t) noFill_tuple_mul F.fills_int_mul F.slot_int_rmul repeat_tuple F.slot_int_index.lookup
      (call_meets F.slot_int_rmul (typeIs_int s 1 t) F.entry_int_rmul (F.args_int_rmul_2 _ _) (int_rmul_tuple 1 t l its.toArray n dd sl)
        ⟨ho, rfl, ⟨_, ho, rfl⟩, call_meets F.slot_tuple_mul ⟨_, ho, rfl⟩ F.entry_tuple_mul (F.args_tuple_mul_2 _ _) (tup_mul_one l its.toArray n dd sl t) ⟨ho, ⟨.ref l, H, I, rfl, q1 rfl⟩⟩⟩)
  · have e : k = 0 := by omega
    subst e
    refine wpAny_binaryOp_repeat_ref (T := "tuple") (U := "int") (by decide) ⟨_, ho, rfl⟩ (fun s' => typeIs_int s' 0 t) noFill_tuple_mul F.fills_int_mul F.slot_int_rmul repeat_tuple F.slot_int_index.lookup
      (call_meets F.slot_int_rmul (typeIs_int s 0 t) F.entry_int_rmul (F.args_int_rmul_2 _ _) (int_rmul_tuple 0 t l its.toArray n dd sl)
        ⟨ho, rfl, ⟨_, ho, rfl⟩, call_meets F.slot_tuple_mul ⟨_, ho, rfl⟩ F.entry_tuple_mul (F.args_tuple_mul_2 _ _) (tup_mul_zero l its.toArray n dd sl t hi) ⟨ho, ?_⟩⟩)
    have hp := I.hok.fresh (Nat.le_refl _)
    exact ⟨.ref s.heap.objs.size, _, I.laid (t' := s.toks) (o := .tup []) (fun b ob q => Heap.get?_push_of_some _ q) (Nat.le_refl _) ⟨Nat.zero_le _, [], .nil, IsTup.new _ _⟩, rfl, q (by decide) _ hp⟩
end LB

set_option maxRecDepth 100000
set_option maxHeartbeats 2000000
namespace LB
open PySem PySem.Spec PyProof.Rows L2
/-! ### what is never reached; promises of defs that raise nothing here -/
def tsNo : TS := fun _ _ _ => False
theorem pss_no {X : Cx} {st : List Stmt} : PSs X st tsNo := ⟨fun _ _ _ _ _ _ h => h.elim⟩
theorem ps_no {X : Cx} {st : Stmt} : PS X st tsNo := ⟨fun _ _ _ _ _ _ h => h.elim⟩
theorem pe_no {X : Cx} {e : PySem.Expr} : PE X e (fun _ _ _ => False) := ⟨fun _ _ _ _ _ _ h => h.elim⟩
theorem pg_tupK {X : Cx} {K : PySem.W.Frag} {pos : Pos} {es : List PySem.Expr} {k : Nat} {t : TGs} {n : Nat} (hK : X.K = K) (hc : X.calm = true) (h : PGs X es t) (h1 : (assignEach es X.env).length = n := by rfl) (h2 : List.findIdx? (fun x => x.fst) (assignEach es X.env) = none := by rfl) :
    PG X (.Tuple es k pos) (gTup K n t) := by
  subst hK
  exact pg_tup hc h h1 h2
section
variable {P : Program} {w : World} {K : PySem.W.Frag} {mg : Str → Option Value} {base : Heap} {k : Nat} {f : Addr} {fd : FuncData} {ps : List Str} {sp sp' : Sp}
theorem fn_calm (F : FnOk P w K mg base (L2.CX P w) k f fd ps sp) (h : ∀ vs H Q E, sp' vs H Q E → sp vs H Q (fun _ _ _ => False)) : FnOk P w K mg base CX0 k f fd ps sp' :=
  ⟨fun vs H Q E q => F.len vs H Q _ (h _ _ _ _ q), fun A outer s H args us vs Q E hr he hb hv hs => codeAny_mono (F.run A outer s H args us vs Q _ hr he hb hv (h _ _ _ _ hs)) fun r s' z => by
    match r, z with
    | .ok (.ret u), z => exact z
    | .error e, ⟨_, _, _, _, _, _, _, _, _, _, _, _, z⟩ => exact z.elim⟩
end
end LB

set_option maxRecDepth 100000
set_option maxHeartbeats 2000000
namespace LB
open PySem PySem.Spec PyProof.Rows L2
def top (i : Nat) : Stmt := PySem.Challenge.pw_asforetold_k11_jobs_foretold.main.body.getD i (.Pass ⟨0, 0, 0, 0⟩)
abbrev sNext : Stmt := top 4
abbrev sLater : Stmt := top 5
abbrev sEarliest : Stmt := top 6
abbrev sNotAfter : Stmt := top 7
abbrev sChild : Stmt := top 9
abbrev sParts : Stmt := top 11
abbrev sPredict : Stmt := top 13
abbrev sEndOf : Stmt := top 14
abbrev sJobEnd : Stmt := top 15
abbrev sCheckCancel : Stmt := top 16
abbrev sIsAfter : Stmt := top 17
abbrev fsinit : Stmt := inClass (top 18) 0
abbrev fsend_whole : Stmt := inClass (top 18) 1
abbrev fspredict_whole : Stmt := inClass (top 18) 2
abbrev fsrows_whole : Stmt := inClass (top 18) 3
abbrev fsrows : Stmt := inClass (top 18) 4
abbrev fsend : Stmt := inClass (top 18) 5
abbrev fscourse : Stmt := inClass (top 18) 6
abbrev fsfind_course : Stmt := inClass (top 18) 7
abbrev fstimeout_course : Stmt := inClass (top 18) 8
abbrev fssequence_course : Stmt := inClass (top 18) 9
abbrev fsorelse_course : Stmt := inClass (top 18) 10
abbrev fsretry_course : Stmt := inClass (top 18) 11
abbrev fsgroup_course : Stmt := inClass (top 18) 12
abbrev fsgroup_pass : Stmt := inClass (top 18) 13
abbrev sUnstarted : Stmt := top 19
abbrev sFreed : Stmt := top 20
abbrev sDecided : Stmt := top 21
abbrev sGroupEnd : Stmt := top 22
abbrev sCell : Stmt := top 24
abbrev sDigits : Stmt := top 25
abbrev sDraw : Stmt := top 26
abbrev sJob : Stmt := top 27
abbrev sWhole : Stmt := top 28
abbrev sPlan : Stmt := top 29
abbrev sLStart : Stmt := top 30
abbrev sLCancel : Stmt := top 31
abbrev sLEarlier : Stmt := top 32
abbrev sLAfter : Stmt := top 33
abbrev sLLate : Stmt := top 34
abbrev sAlike : Stmt := top 35
abbrev sLEnd : Stmt := top 36
abbrev sLRefused : Stmt := top 37
abbrev sLaw : Stmt := top 38
end LB

set_option maxRecDepth 100000
set_option maxHeartbeats 4000000
namespace LB
open PySem PySem.Spec PyProof.Rows L2
/-! ### the helpers of a law -/
/-- built-ins' names that the module leaves free -/
structure Names (mg : Str → Option Value) : Prop where
  len : mg "len" = none
  range : mg "range" = none
  int : mg "int" = none
  repr : mg "repr" = none
section
variable {P : Program} {w : World} {K : PySem.W.Frag} {mg : Str → Option Value} {base : Heap}
/-- some int comes back -/
def spCellL (K : PySem.W.Frag) : Sp := fun vs H Q _ => ∃ (a : Addr) (ns : List Int) (k : Int), vs = [.ref a, .int k] ∧ SqL K H a (ns.map V.int) ∧ 0 ≤ k ∧ ∀ c : Int, Q (.int c) H
theorem scCell : FnScope ["script", "k"] ["script", "k"] (defScope sCell) := ⟨rfl, rfl, rfl, by decide +kernel, rfl, by decide +kernel, by decide +kernel⟩
theorem ok_cell {f : Addr} {fd : FuncData} (F : Fun K "_law_cell" "_law_cell" sCell f fd) (M : Names mg) : FnOk P w K mg base CX0 1 f fd ["script", "k"] (spCellL K) := by
  refine F.ok scCell (fun vs H Q E h => ?_) (fun cdv A outer s H vs Q E hr h => ?_)
  · obtain ⟨a, ns, k, rfl, _⟩ := h
    rfl
  · obtain ⟨a, ns, k, rfl, hS, h0, q⟩ := h
    refine ⟨_, (pss_cons (ps_if (pt_cmpR op_lt (pv 1) (pe_callB call_len_seq (by rfl) M.len PySem.boot_len (pa_cons (pv 0) pa_nil)) (nomark _)) (pss_one (ps_ret (pe_ix ix_list (pv 0) (pv 1) (fun _ _ => rfl)))) pss_nil)
        (pss_one (ps_ret pe_int))), ?_⟩
    refine ⟨_, rfl, _, rfl, a, _, rfl, .inl hS, _, _, rfl, rfl, _, rfl, ?_⟩
    refine ite2 (fun c => ?_) (fun c => q 0)
    have lt := of_decide_eq_true c
    rw [List.length_map] at lt
    obtain ⟨j, rfl⟩ : ∃ j : Nat, k = (j : Int) := ⟨k.toNat, by omega⟩
    have hj : j < ns.length := by omega
    exact ⟨_, rfl, _, rfl, a, _, _, _, rfl, rfl, hS, atI_nat (v := V.int ns[j]) (by rw [List.getElem?_map, List.getElem?_eq_getElem hj]; rfl), q _⟩
/-- a number of three digits at most -/
def Dig (i : Int) : Prop := 0 ≤ i ∧ i < 1000
/-- a new list of at most 63 * 60 such numbers -/
def spDigits (K : PySem.W.Frag) : Sp := fun vs H Q _ => ∃ (a : Addr) (ns : List Int) (i j : Int), vs = [.ref a, .int i, .int j] ∧ SqL K H a (ns.map V.int) ∧ 0 ≤ i ∧ i ≤ j ∧ j ≤ 63 ∧
  ∀ (ds : List Int) (H' : Hp) (p : Addr), Same H H' → H p = none → H' p = some (.lst (ds.map V.int)) → (∀ d ∈ ds, Dig d) → ds.length ≤ 3780 → Q (.ref p) H'
theorem scDigits : FnScope ["script", "first", "last", "digits", "k", "cell", "turn", "seed"] ["script", "first", "last"] (defScope sDigits) := ⟨rfl, rfl, rfl, by decide +kernel, rfl, by decide +kernel, by decide +kernel⟩
theorem same_upd {H H' : Hp} {p : Addr} {o : HO} (e : Same H H') (n : H p = none) : Same H (upd H' p o) := fun b u q => by
  rw [upd_ne (ne_of_none q n)]
  exact e b u q
theorem dig_more {c : Int} {ds : List Int} (h : ∀ d ∈ ds, Dig d) : ∀ d ∈ ds ++ [c % 1000], Dig d := by
  intro d hd
  rcases List.mem_append.mp hd with h1 | h1
  · exact h d h1
  · rw [List.mem_singleton.mp h1]
    exact ⟨Int.emod_nonneg _ (by decide), Int.emod_lt_of_pos _ (by decide)⟩
theorem lst_more {ds : List Int} {c : Int} : HO.lst (ds.map V.int ++ [V.int c]) = HO.lst ((ds ++ [c]).map V.int) := by rw [List.map_append] <;> rfl
theorem small_line {n : Nat} (h : n ≤ 4000) : n < sizeLine := Nat.lt_of_le_of_lt h (by decide)
theorem ok_digits {f fC : Addr} {fd fdC : FuncData} (F : Fun K "_law_digits" "_law_digits" sDigits f fd) (M : Names mg) (FC : Fun K "_law_cell" "_law_cell" sCell fC fdC) (mCell : mg "_law_cell" = some (.ref fC)) (bCell : Binds K fdC ["script", "k"] []) :
    FnOk P w K mg base CX0 2 f fd ["script", "first", "last"] (spDigits K) := by
  have GCell : FnOk P w K mg base CX0 1 fC fdC ["script", "k"] (spCellL K) := ok_cell FC M
  have kCell := FC.kp
  refine F.ok scDigits (fun vs H Q E h => ?_) (fun cdv A outer s H vs Q E hr h => ?_)
  · obtain ⟨a, ns, i, j, rfl, _⟩ := h
    rfl
  · obtain ⟨a, ns, i, j, rfl, hS, h0, hij, hj, q⟩ := h
    have nd := scDigits.nd
    refine ⟨_, (pss_cons (ps_set (i := 3) nd rfl (Or.inl rfl) (pe_lst pa_nil))
        (pss_cons (ps_for PassesOwn.never rfl (pi_range2 (by rfl) M.range (pa_cons (pv 1) (pa_cons (pv 2) pa_nil))) (pg_name (i := 4) nd rfl (Or.inl rfl)) (pss_cons (ps_set (i := 5) nd rfl (Or.inl rfl) (pe_call GCell (hr.mono (by decide)) rfl mCell kCell bCell .nil pass0 (pa_cons (pv 0) (pa_cons (pv 4) pa_nil))))
        (pss_cons (ps_if (pt_cmpR op_lt (pv 5) pe_int (nomark _)) (pss_one (ps_set (i := 5) nd rfl (Or.inl rfl) (pe_op op_sub pe_int (pe_op op_mul pe_int (pv 5))))) pss_nil)
        (pss_one (ps_if (pt_cmpR op_ge (pv 5) pe_int (nomark _)) (pss_one (ps_for PassesOwn.never rfl (pi_range1 (by rfl) M.range (pa_cons pe_int pa_nil)) (pg_name (i := 6) nd rfl (Or.inl rfl)) (pss_one (ps_if (pt_cmpR op_gt (pv 5) pe_int (nomark _)) (pss_cons (ps_expr (pe_bm PySem.F.plainAttrs_list PySem.F.slot_list_append PySem.F.type_list_append mt_append (pv 3) (pa_cons (pe_op op_mod (pe_callTy call_int1 (by rfl) M.int (by decide +kernel) (pa_cons (pv 5) pa_nil)) pe_int) pa_nil)))
        (pss_one (ps_set (i := 5) nd rfl (Or.inl rfl) (pe_op op_fdiv (pv 5) pe_int)))) pss_nil)))) (pss_cons (ps_set (i := 7) nd rfl (Or.inl rfl) (pe_op op_mod (pe_callTy call_int1 (by rfl) M.int (by decide +kernel) (pa_cons (pe_op op_add (pe_op op_add (pe_op op_mul (pv 5) pe_int) (pe_op op_mul (pv 4) pe_int)) pe_int) pa_nil)) pe_int))
        (pss_one (ps_for PassesOwn.never rfl (pi_range1 (by rfl) M.range (pa_cons pe_int pa_nil)) (pg_name (i := 6) nd rfl (Or.inl rfl)) (pss_cons (ps_set (i := 7) nd rfl (Or.inl rfl) (pe_op op_mod (pe_callTy call_int1 (by rfl) M.int (by decide +kernel) (pa_cons (pe_op op_add (pe_op op_add (pe_op op_mul (pv 7) pe_int) (pe_op op_mul pe_int (pv 6))) pe_int) pa_nil)) pe_int))
        (pss_one (ps_expr (pe_bm PySem.F.plainAttrs_list PySem.F.slot_list_append PySem.F.type_list_append mt_append (pv 3) (pa_cons (pe_op op_mod (pe_callTy call_int1 (by rfl) M.int (by decide +kernel) (pa_cons (pe_op op_fdiv (pv 7) pe_int) pa_nil)) pe_int) pa_nil)))))))))))))
        (pss_one (ps_ret (pv 3))))), ?_⟩
    refine ⟨(by show 0 ≤ sizeLine; decide), fun p hp => ?_⟩
    refine ⟨_, rfl, _, rfl, i, j, rfl, ⟨by omega, by omega, by omega, by omega⟩, ?_⟩
    refine for_range (lo := i) (n := (j - i).toNat) (fun m σ H' => ∃ (ds : List Int) (v4 v5 v6 v7 : Option V), σ = [some (.ref a), some (.int i), some (.int j), some (.ref p), v4, v5, v6, v7] ∧ Same H H' ∧ H' p = some (.lst (ds.map V.int)) ∧ (∀ d ∈ ds, Dig d) ∧ ds.length ≤ 60 * m)
      ⟨[], none, none, none, none, rfl, same_upd (Same.refl H) hp, upd_same, by simp, by simp⟩ ?_ ?_
    · rintro m σ H' hm ⟨ds, v4, v5, v6, v7, rfl, sm, hl, hd, hlen⟩
      refine ⟨_, rfl, _, rfl, a, ns, _, rfl, sm.seq hS, by omega, fun c => ?_⟩
      refine ⟨_, rfl, _, _, rfl, rfl, _, rfl, ?_⟩
      refine ite2 (fun _ => ?_) (fun _ => ?_)
      · refine ⟨_, rfl, _, _, rfl, rfl, .inl ⟨by decide, by decide⟩, _, _, rfl, rfl, ?_⟩
        generalize (1 : Int) - 2 * c = c'
        (refine ⟨_, rfl, _, _, rfl, rfl, _, rfl, ?_⟩
         refine ite2 (fun _ => ?_) (fun _ => ?_)
         · refine ⟨60, rfl, by decide, by decide, for_range (n := 60) (fun t σ H2 => ∃ (ds : List Int) (c : Int) (v6 : Option V), σ = [some (.ref a), some (.int i), some (.int j), some (.ref p), some (.int (i + m)), some (.int c), v6, v7] ∧ Same H H2 ∧ H2 p = some (.lst (ds.map V.int)) ∧ (∀ d ∈ ds, Dig d) ∧ ds.length ≤ 60 * m + t)
             ⟨ds, _, v6, rfl, sm, hl, hd, by omega⟩ ?_ ?_⟩
           · rintro t σ H2 ht ⟨ds, c, v6, rfl, sm, hl, hd, hlen⟩
             refine ⟨_, rfl, _, _, rfl, rfl, _, rfl, ?_⟩
             refine ite2 (fun _ => ?_) (fun _ => ?_)
             · refine ⟨_, rfl, .inl ⟨rfl, _, SqL.of hl⟩, _, rfl, .inl ⟨_, rfl, _, _, rfl, rfl, (by show (0 : Int) < 1000; decide), p, _, _, rfl, rfl, hl, (by rw [List.length_map]; exact small_line (by omega)), ?_⟩⟩
               refine ⟨_, rfl, _, _, rfl, rfl, ⟨by decide, by decide⟩, ?_⟩
               exact ⟨ds ++ [c % 1000], _, _, rfl, same_upd sm hp, upd_same.trans (congrArg some lst_more), dig_more hd, by rw [List.length_append, List.length_singleton]; omega⟩
             · exact ⟨ds, _, _, rfl, sm, hl, hd, by omega⟩
           · rintro σ H2 ⟨ds, c, v6, rfl, sm, hl, hd, hlen⟩
             exact ⟨ds, _, _, _, _, rfl, sm, hl, hd, by omega⟩
         · refine ⟨_, rfl, _, _, rfl, rfl, .inr ⟨by decide, by decide⟩, _, rfl, _, _, rfl, rfl, .inr ⟨by decide, by decide⟩, _, _, rfl, rfl, _, _, rfl, rfl, .inl ⟨_, rfl, _, _, rfl, rfl, (by show (0 : Int) < 2147483399; decide), ?_⟩⟩
           refine ⟨12, rfl, by decide, by decide, for_range (n := 12) (fun t σ H2 => ∃ (ds : List Int) (c : Int) (v6 : Option V) (s7 : Int), σ = [some (.ref a), some (.int i), some (.int j), some (.ref p), some (.int (i + m)), some (.int c), v6, some (.int s7)] ∧ Same H H2 ∧ H2 p = some (.lst (ds.map V.int)) ∧ (∀ d ∈ ds, Dig d) ∧ ds.length ≤ 60 * m + t)
             ⟨ds, _, v6, _, rfl, sm, hl, hd, by omega⟩ ?_ ?_⟩
           · rintro t σ H2 ht ⟨ds, c, v6, s7, rfl, sm, hl, hd, hlen⟩
             refine ⟨_, rfl, _, _, rfl, rfl, .inr ⟨by decide, by decide⟩, _, rfl, _, _, rfl, rfl, .inl ⟨by decide, by decide⟩, _, _, rfl, rfl, _, _, rfl, rfl, .inl ⟨_, rfl, _, _, rfl, rfl, (by show (0 : Int) < 2147483563; decide), ?_⟩⟩
             refine ⟨_, rfl, .inl ⟨rfl, _, SqL.of hl⟩, _, rfl, _, _, rfl, rfl, ⟨by decide, by decide⟩, .inl ⟨_, rfl, _, _, rfl, rfl, (by show (0 : Int) < 1000; decide), p, _, _, rfl, rfl, hl, (by rw [List.length_map]; exact small_line (by omega)), ?_⟩⟩
             exact ⟨ds ++ [_ % 1000], _, _, _, rfl, same_upd sm hp, upd_same.trans (congrArg some lst_more), dig_more hd, by rw [List.length_append, List.length_singleton]; omega⟩
           · rintro σ H2 ⟨ds, c, v6, s7, rfl, sm, hl, hd, hlen⟩
             exact ⟨ds, _, _, _, _, rfl, sm, hl, hd, by omega⟩)
      · (refine ⟨_, rfl, _, _, rfl, rfl, _, rfl, ?_⟩
         refine ite2 (fun _ => ?_) (fun _ => ?_)
         · refine ⟨60, rfl, by decide, by decide, for_range (n := 60) (fun t σ H2 => ∃ (ds : List Int) (c : Int) (v6 : Option V), σ = [some (.ref a), some (.int i), some (.int j), some (.ref p), some (.int (i + m)), some (.int c), v6, v7] ∧ Same H H2 ∧ H2 p = some (.lst (ds.map V.int)) ∧ (∀ d ∈ ds, Dig d) ∧ ds.length ≤ 60 * m + t)
             ⟨ds, _, v6, rfl, sm, hl, hd, by omega⟩ ?_ ?_⟩
           · rintro t σ H2 ht ⟨ds, c, v6, rfl, sm, hl, hd, hlen⟩
             refine ⟨_, rfl, _, _, rfl, rfl, _, rfl, ?_⟩
             refine ite2 (fun _ => ?_) (fun _ => ?_)
             · refine ⟨_, rfl, .inl ⟨rfl, _, SqL.of hl⟩, _, rfl, .inl ⟨_, rfl, _, _, rfl, rfl, (by show (0 : Int) < 1000; decide), p, _, _, rfl, rfl, hl, (by rw [List.length_map]; exact small_line (by omega)), ?_⟩⟩
               refine ⟨_, rfl, _, _, rfl, rfl, ⟨by decide, by decide⟩, ?_⟩
               exact ⟨ds ++ [c % 1000], _, _, rfl, same_upd sm hp, upd_same.trans (congrArg some lst_more), dig_more hd, by rw [List.length_append, List.length_singleton]; omega⟩
             · exact ⟨ds, _, _, rfl, sm, hl, hd, by omega⟩
           · rintro σ H2 ⟨ds, c, v6, rfl, sm, hl, hd, hlen⟩
             exact ⟨ds, _, _, _, _, rfl, sm, hl, hd, by omega⟩
         · refine ⟨_, rfl, _, _, rfl, rfl, .inr ⟨by decide, by decide⟩, _, rfl, _, _, rfl, rfl, .inr ⟨by decide, by decide⟩, _, _, rfl, rfl, _, _, rfl, rfl, .inl ⟨_, rfl, _, _, rfl, rfl, (by show (0 : Int) < 2147483399; decide), ?_⟩⟩
           refine ⟨12, rfl, by decide, by decide, for_range (n := 12) (fun t σ H2 => ∃ (ds : List Int) (c : Int) (v6 : Option V) (s7 : Int), σ = [some (.ref a), some (.int i), some (.int j), some (.ref p), some (.int (i + m)), some (.int c), v6, some (.int s7)] ∧ Same H H2 ∧ H2 p = some (.lst (ds.map V.int)) ∧ (∀ d ∈ ds, Dig d) ∧ ds.length ≤ 60 * m + t)
             ⟨ds, _, v6, _, rfl, sm, hl, hd, by omega⟩ ?_ ?_⟩
           · rintro t σ H2 ht ⟨ds, c, v6, s7, rfl, sm, hl, hd, hlen⟩
             refine ⟨_, rfl, _, _, rfl, rfl, .inr ⟨by decide, by decide⟩, _, rfl, _, _, rfl, rfl, .inl ⟨by decide, by decide⟩, _, _, rfl, rfl, _, _, rfl, rfl, .inl ⟨_, rfl, _, _, rfl, rfl, (by show (0 : Int) < 2147483563; decide), ?_⟩⟩
             refine ⟨_, rfl, .inl ⟨rfl, _, SqL.of hl⟩, _, rfl, _, _, rfl, rfl, ⟨by decide, by decide⟩, .inl ⟨_, rfl, _, _, rfl, rfl, (by show (0 : Int) < 1000; decide), p, _, _, rfl, rfl, hl, (by rw [List.length_map]; exact small_line (by omega)), ?_⟩⟩
             exact ⟨ds ++ [_ % 1000], _, _, _, rfl, same_upd sm hp, upd_same.trans (congrArg some lst_more), dig_more hd, by rw [List.length_append, List.length_singleton]; omega⟩
           · rintro σ H2 ⟨ds, c, v6, s7, rfl, sm, hl, hd, hlen⟩
             exact ⟨ds, _, _, _, _, rfl, sm, hl, hd, by omega⟩)
    · rintro σ H' ⟨ds, v4, v5, v6, v7, rfl, sm, hl, hd, hlen⟩
      exact ⟨_, rfl, q ds H' p sm hp hl hd (by omega)⟩
end
end LB

set_option maxRecDepth 100000
set_option maxHeartbeats 4000000
namespace LB
open PySem PySem.Spec PyProof.Rows L2
/-! ### the box of draws -/
/-- at b: a list of the digits' list and of a place -/
def Box (H : Hp) (b : Addr) : Prop := ∃ (l : Addr) (ds : List Int) (n : Int), H b = some (.lst [.ref l, .int n]) ∧ H l = some (.lst (ds.map V.int)) ∧ b ≠ l ∧ 0 ≤ n ∧ ds.length ≤ 3780
/-- all stands but what is at b, and the list of the digits is the same one -/
structure But (b : Addr) (H H' : Hp) : Prop where
  k : ∀ a o, a ≠ b → H a = some o → H' a = some o
  d : ∀ l n, H b = some (.lst [.ref l, .int n]) → ∃ n' : Int, H' b = some (.lst [.ref l, .int n'])
theorem But.refl (b : Addr) (H : Hp) : But b H H := ⟨fun _ _ _ q => q, fun l n h => ⟨n, h⟩⟩
theorem But.trans {b : Addr} {H H1 H2 : Hp} (x : But b H H1) (y : But b H1 H2) : But b H H2 := ⟨fun a o n q => y.k a o n (x.k a o n q), fun l n h => let ⟨n', h'⟩ := x.d l n h; y.d l n' h'⟩
theorem But.of {b : Addr} {H H' : Hp} (e : Same H H') : But b H H' := ⟨fun a o _ q => e a o q, fun l n h => ⟨n, e _ _ h⟩⟩
theorem But.new {b : Addr} {H H' : Hp} {p : Addr} {o : HO} (x : But b H H') (n : H' p = none) : But b H (upd H' p o) :=
  ⟨fun a u na q => by
    have q' := x.k a u na q
    rw [upd_ne (ne_of_none q' n)]
    exact q', fun l m h => by
    obtain ⟨n', h'⟩ := x.d l m h
    exact ⟨n', by rw [upd_ne (ne_of_none h' n)]; exact h'⟩⟩
theorem But.seqT {K : PySem.W.Frag} {b : Addr} {H H' : Hp} {a : Addr} {xs : List V} (x : But b H H') (ne : ∀ ys, H b ≠ some (.tup ys)) (nf : ∀ o u, H b ≠ some (.frz o u)) (h : SqT K H a xs) : SqT K H' a xs := by
  rcases h with (h | ⟨o, h⟩) | h
  · exact .inl (.inl (x.k a _ (fun z => ne _ (z ▸ h)) h))
  · exact .inl (.inr ⟨o, x.k a _ (fun z => nf _ _ (z ▸ h)) h⟩)
  · exact .inr h
theorem Box.ne {H : Hp} {b : Addr} (B : Box H b) : (∀ ys, H b ≠ some (.tup ys)) ∧ ∀ o u, H b ≠ some (.frz o u) := by
  obtain ⟨l, ds, n, h, _⟩ := B
  rw [h]
  exact ⟨fun ys z => (by cases z), fun o u z => (by cases z)⟩
theorem Box.tup {K : PySem.W.Frag} {b : Addr} {H H' : Hp} {a : Addr} {xs : List V} (B : Box H b) (x : But b H H') (h : SqT K H a xs) : SqT K H' a xs := x.seqT B.ne.1 B.ne.2 h
theorem Box.new {H : Hp} {b p : Addr} {o : HO} (B : Box H b) (n : H p = none) : Box (upd H p o) b := by
  obtain ⟨l, ds, k, h, hl, r⟩ := B
  exact ⟨l, ds, k, by rw [upd_ne (ne_of_none h n)]; exact h, by rw [upd_ne (ne_of_none hl n)]; exact hl, r⟩
section
variable {P : Program} {w : World} {K : PySem.W.Frag} {mg : Str → Option Value} {base : Heap}
def spDraw (K : PySem.W.Frag) : Sp := fun vs H Q _ => ∃ (b : Addr) (m : Int), vs = [.ref b, .int m] ∧ Box H b ∧ 0 < m ∧ ∀ (r : Int) (H' : Hp), 0 ≤ r → r < m → Box H' b → But b H H' → Q (.int r) H'
theorem scDraw : FnScope ["box", "many", "at"] ["box", "many"] (defScope sDraw) := ⟨rfl, rfl, rfl, by decide +kernel, rfl, by decide +kernel, by decide +kernel⟩
theorem ok_draw {f : Addr} {fd : FuncData} (F : Fun K "_law_draw" "_law_draw" sDraw f fd) (M : Names mg) : FnOk P w K mg base CX0 1 f fd ["box", "many"] (spDraw K) := by
  refine F.ok scDraw (fun vs H Q E h => ?_) (fun cdv A outer s H vs Q E hr h => ?_)
  · obtain ⟨b, m, rfl, _⟩ := h
    rfl
  · obtain ⟨b, m, rfl, ⟨l, ds, n, hb, hl, ne, h0, hlen⟩, hm, q⟩ := h
    have nd := scDraw.nd
    refine ⟨_, (pss_cons (ps_set (i := 2) nd rfl (Or.inl rfl) (pe_ix ix_list (pv 0) pe_int (fun _ _ => rfl)))
        (pss_cons (ps_asg (pe_op op_add (pv 2) pe_int) (pg_sub (pv 0) pe_int set_list))
        (pss_cons (ps_if (pt_cmpR op_lt (pv 2) (pe_callB call_len_seq (by rfl) M.len PySem.boot_len (pa_cons (pe_ix ix_list (pv 0) pe_int (fun _ _ => rfl)) pa_nil)) (nomark _)) (pss_one (ps_ret (pe_op op_mod (pe_callTy call_int1 (by rfl) M.int (by decide +kernel) (pa_cons (pe_ix ix_list (pe_ix ix_list (pv 0) pe_int (fun _ _ => rfl)) (pv 2) (fun _ _ => rfl)) pa_nil)) (pv 1)))) pss_nil)
        (pss_one (ps_ret (pe_op op_mod (pe_callTy call_int1 (by rfl) M.int (by decide +kernel) (pa_cons (pe_op op_add (pe_op op_mul (pv 2) pe_int) pe_int) pa_nil)) (pv 1))))))), ?_⟩
    refine ⟨_, rfl, b, _, _, _, rfl, rfl, SqL.of hb, rfl, ?_⟩
    refine ⟨_, rfl, _, _, rfl, rfl, _, rfl, b, _, _, 1, rfl, rfl, hb, rfl, ?_⟩
    have hb' : upd H b (.lst [.ref l, .int (n + 1)]) b = some (.lst [.ref l, .int (n + 1)]) := upd_same
    have hl' : upd H b (.lst [.ref l, .int (n + 1)]) l = some (.lst (ds.map V.int)) := by rw [upd_ne ne.symm]; exact hl
    have B : Box (upd H b (.lst [.ref l, .int (n + 1)])) b := ⟨l, ds, n + 1, hb', hl', ne, by omega, hlen⟩
    have U : But b H (upd H b (.lst [.ref l, .int (n + 1)])) := ⟨fun a o na z => by rw [upd_ne na]; exact z, fun l' n' z => by
      rw [hb] at z
      cases z
      exact ⟨n + 1, hb'⟩⟩
    refine ⟨_, rfl, _, rfl, b, _, _, _, rfl, rfl, SqL.of hb', rfl, l, _, rfl, .inl (SqL.of hl'), _, _, rfl, rfl, _, rfl, ?_⟩
    refine ite2 (fun c => ?_) (fun c => ?_)
    · have lt := of_decide_eq_true c
      rw [List.length_map] at lt
      obtain ⟨j, rfl⟩ : ∃ j : Nat, n = (j : Int) := ⟨n.toNat, by omega⟩
      have hj : j < ds.length := by omega
      refine ⟨_, rfl, b, _, _, _, rfl, rfl, SqL.of hb', rfl, _, rfl, l, _, _, _, rfl, rfl, SqL.of hl', atI_nat (v := V.int ds[j]) (by rw [List.getElem?_map, List.getElem?_eq_getElem hj]; rfl), .inl ⟨_, rfl, _, rfl, _, _, rfl, rfl, hm, ?_⟩⟩
      exact q _ _ (Int.emod_nonneg _ (by omega)) (Int.emod_lt_of_pos _ hm) B U
    · refine ⟨_, rfl, _, _, rfl, rfl, .inr ⟨by decide, by decide⟩, _, _, rfl, rfl, .inl ⟨_, rfl, _, rfl, _, _, rfl, rfl, hm, ?_⟩⟩
      exact q _ _ (Int.emod_nonneg _ (by omega)) (Int.emod_lt_of_pos _ hm) B U
theorem scAlike : FnScope ["one", "two"] ["one", "two"] (defScope sAlike) := ⟨rfl, rfl, rfl, by decide +kernel, rfl, by decide +kernel, by decide +kernel⟩
theorem ok_alike {f : Addr} {fd : FuncData} (F : Fun K "_law_alike" "_law_alike" sAlike f fd) (M : Names mg) : FnG P w K mg base CX0 1 f fd ["one", "two"] (spAlike K) := by
  refine FnG.of_fun F scAlike (fun vs H Q E h => ?_) (fun cdv A outer s H vs Q E gf hr h => ?_)
  · obtain ⟨x, y, d, rfl, _⟩ := h
    rfl
  · obtain ⟨x, y, d, rfl, hx, hy, S, q⟩ := h
    refine ⟨_, (pss_one (ps_ret (pe_cmpR op_eq (pe_callB (call_repr gf hr.units) (by rfl) M.repr PyProof.Rows.boot_repr (pa_cons (pv 0) pa_nil)) (pe_callB (call_repr gf hr.units) (by rfl) M.repr PyProof.Rows.boot_repr (pa_cons (pv 1) pa_nil)) (nomark _)))), ?_⟩
    refine ⟨_, rfl, x, d, rfl, hx, S, _, rfl, y, d, rfl, hy, S, rfl, ?_⟩
    show Q (V.bl (decide (V.str d.shown = V.str d.shown))) _
    rw [decide_eq_true rfl]
    exact q
end
end LB

set_option maxRecDepth 100000
set_option maxHeartbeats 4000000
namespace LB
open PySem PySem.Spec PyProof.Rows L2
/-! ### tuples stay -/
structure Tp (H H' : Hp) : Prop where
  tup : ∀ a xs, H a = some (.tup xs) → H' a = some (.tup xs)
  frz : ∀ a o u, H a = some (.frz o u) → H' a = some (.frz o u)
theorem Tp.refl (H : Hp) : Tp H H := ⟨fun _ _ z => z, fun _ _ _ z => z⟩
theorem Tp.trans {H H1 H2 : Hp} (x : Tp H H1) (y : Tp H1 H2) : Tp H H2 := ⟨fun a xs z => y.tup a xs (x.tup a xs z), fun a o u z => y.frz a o u (x.frz a o u z)⟩
theorem Tp.same {H H' : Hp} (e : Same H H') : Tp H H' := ⟨fun a xs z => e _ _ z, fun a o u z => e _ _ z⟩
theorem Tp.but {b : Addr} {H H' : Hp} (B : Box H b) (e : But b H H') : Tp H H' :=
  ⟨fun a xs z => e.k a _ (fun y => B.ne.1 xs (y ▸ z)) z, fun a o u z => e.k a _ (fun y => B.ne.2 o u (y ▸ z)) z⟩
theorem Tp.lst {H : Hp} {l : Addr} {xs : List V} {o : HO} (h : H l = some (.lst xs)) : Tp H (upd H l o) :=
  ⟨fun a ys z => by rw [upd_ne (ne_of z h (by intro y; cases y))]; exact z, fun a p u z => by rw [upd_ne (ne_of z h (by intro y; cases y))]; exact z⟩
theorem Tp.seq {K : PySem.W.Frag} {H H' : Hp} {a : Addr} {xs : List V} (x : Tp H H') (h : SqT K H a xs) : SqT K H' a xs := by
  rcases h with (h | ⟨o, h⟩) | h
  · exact .inl (.inl (x.tup _ _ h))
  · exact .inl (.inr ⟨o, x.frz _ _ _ h⟩)
  · exact .inr h
/-! ### nodes as values -/
def optV : Option Int → V
  | none => .non
  | some x => .int x
def Pk.word : Pk → Str
  | .all => "all"
  | .race => "race"
  | .any => "any"
  | .sequence => "sequence"
def Kd.word : Kd → Str
  | .plain k => k.word
  | .pool _ => "pool"
  | .timeout _ => "timeout"
  | .orelse => "orelse"
  | .retry .. => "retry"
def NdAt (K : PySem.W.Frag) (H : Hp) (v : V) : Nd → Prop
  | .job d g x c f => ∃ a, v = .ref a ∧ SqT K H a [.str "job", .int d, .str (if g then "gives" else "throws"), .int x, .int c, optV f]
  | .whole (.plain w) ps => ∃ a b, v = .ref a ∧ SqT K H a [.str w.word, .ref b] ∧ SqT K H b (ps.map V.int)
  | .whole (.pool n) ps => ∃ a b, v = .ref a ∧ SqT K H a [.str "pool", .int n, .ref b] ∧ SqT K H b (ps.map V.int)
  | .whole (.timeout t) ps => ∃ a i, ps = [i] ∧ v = .ref a ∧ SqT K H a [.str "timeout", .int t, .int i]
  | .whole .orelse ps => ∃ a i j, ps = [i, j] ∧ v = .ref a ∧ SqT K H a [.str "orelse", .int i, .int j]
  | .whole (.retry r d) ps => ∃ a i, ps = [i] ∧ v = .ref a ∧ SqT K H a [.str "retry", .int r, .int d, .int i]
theorem NdAt.tp {K : PySem.W.Frag} {H H' : Hp} {v : V} {n : Nd} (x : Tp H H') (h : NdAt K H v n) : NdAt K H' v n := by
  match n, h with
  | .job .., ⟨a, e, q⟩ => exact ⟨a, e, x.seq q⟩
  | .whole (.plain w) ps, ⟨a, b, e, q, r⟩ => exact ⟨a, b, e, x.seq q, x.seq r⟩
  | .whole (.pool n) ps, ⟨a, b, e, q, r⟩ => exact ⟨a, b, e, x.seq q, x.seq r⟩
  | .whole (.timeout t) ps, ⟨a, i, e0, e, q⟩ => exact ⟨a, i, e0, e, x.seq q⟩
  | .whole .orelse ps, ⟨a, i, j, e0, e, q⟩ => exact ⟨a, i, j, e0, e, x.seq q⟩
  | .whole (.retry r d) ps, ⟨a, i, e0, e, q⟩ => exact ⟨a, i, e0, e, x.seq q⟩
/-- a row of them -/
structure NdsAt (K : PySem.W.Frag) (H : Hp) (vs : List V) (ns : List Nd) : Prop where
  len : vs.length = ns.length
  at_ : ∀ (i : Nat) (n : Nd), ns[i]? = some n → ∃ v : V, vs[i]? = some v ∧ NdAt K H v n
theorem NdsAt.nil {K : PySem.W.Frag} {H : Hp} : NdsAt K H [] [] := ⟨rfl, fun i n h => by simp at h⟩
theorem NdsAt.tp {K : PySem.W.Frag} {H H' : Hp} {vs : List V} {ns : List Nd} (x : Tp H H') (h : NdsAt K H vs ns) : NdsAt K H' vs ns := ⟨h.len, fun i n q => let ⟨v, e, r⟩ := h.at_ i n q; ⟨v, e, r.tp x⟩⟩
theorem NdsAt.more {K : PySem.W.Frag} {H : Hp} {vs : List V} {ns : List Nd} {v : V} {n : Nd} (h : NdsAt K H vs ns) (r : NdAt K H v n) : NdsAt K H (vs ++ [v]) (ns ++ [n]) := by
  have hl := h.len
  refine ⟨by simp [hl], fun i m q => ?_⟩
  by_cases c : i < ns.length
  · rw [List.getElem?_append_left c] at q
    obtain ⟨u, e, z⟩ := h.at_ i m q
    exact ⟨u, by rw [List.getElem?_append_left (by omega)]; exact e, z⟩
  · rw [List.getElem?_append_right (by omega)] at q
    have c2 : i = ns.length := by
      by_cases c3 : i - ns.length = 0
      · omega
      · rw [List.getElem?_eq_none (by simp; omega)] at q
        cases q
    subst c2
    have e : n = m := by simpa using q
    subst e
    exact ⟨v, by rw [← hl, List.getElem?_append_right (Nat.le_refl _)]; simp, r⟩
def PlanAt (K : PySem.W.Frag) (H : Hp) (v : V) (ns : List Nd) : Prop := ∃ a vs, v = .ref a ∧ SqT K H a vs ∧ NdsAt K H vs ns
theorem PlanAt.tp {K : PySem.W.Frag} {H H' : Hp} {v : V} {ns : List Nd} (x : Tp H H') (h : PlanAt K H v ns) : PlanAt K H' v ns := let ⟨a, vs, e, q, r⟩ := h; ⟨a, vs, e, x.seq q, r.tp x⟩
theorem Box.apart {H : Hp} {b l : Addr} (B : Box H b) (n : H l = none) : l ≠ b := fun z => by
  obtain ⟨_, _, _, h, _⟩ := B
  rw [z, h] at n
  cases n
theorem Box.keepL {H H' : Hp} {b l : Addr} {xs : List V} (B : Box H b) (n : H l = none) (U : But b (upd H l (.lst xs)) H') : H' l = some (.lst xs) := U.k l _ (B.apart n) upd_same
theorem Box.same {H H' : Hp} {b : Addr} (B : Box H b) (e : Same H H') : Box H' b := by
  obtain ⟨l, ds, k, h, hl, r⟩ := B
  exact ⟨l, ds, k, e _ _ h, e _ _ hl, r⟩
theorem same_new {H : Hp} {p : Addr} {o : HO} (n : H p = none) : Same H (upd H p o) := same_upd (Same.refl H) n
structure NamesP (mg : Str → Option Value) : Prop extends Names mg where
  tuple : mg "tuple" = none
  min : mg "min" = none
  max : mg "max" = none
  sum : mg "sum" = none
section
variable {P : Program} {w : World} {K : PySem.W.Frag} {mg : Str → Option Value} {base : Heap}
def spJob (K : PySem.W.Frag) : Sp := fun vs H Q _ => ∃ (b : Addr), vs = [.ref b] ∧ Box H b ∧ ∀ (v : V) (d : Int) (g : Bool) (x c : Int) (f : Option Int) (H' : Hp), JobOk d x c f → Box H' b → But b H H' → NdAt K H' v (.job d g x c f) → Q v H'
theorem scJob : FnScope ["box", "duration", "word", "cleanup", "fault"] ["box"] (defScope sJob) := ⟨rfl, rfl, rfl, by decide +kernel, rfl, by decide +kernel, by decide +kernel⟩
theorem ok_job {f fD : Addr} {fd fdD : FuncData} (F : Fun K "_law_job" "_law_job" sJob f fd) (M : Names mg) (FD : Fun K "_law_draw" "_law_draw" sDraw fD fdD) (mD : mg "_law_draw" = some (.ref fD)) (bD : Binds K fdD ["box", "many"] []) :
    FnOk P w K mg base CX0 2 f fd ["box"] (spJob K) := by
  have GD : FnOk P w K mg base CX0 1 fD fdD ["box", "many"] (spDraw K) := ok_draw FD M
  have kD := FD.kp
  refine F.ok scJob (fun vs H Q E h => ?_) (fun cdv A outer s H vs Q E hr h => ?_)
  · obtain ⟨b, rfl, _⟩ := h
    rfl
  · obtain ⟨b, rfl, B, q⟩ := h
    have nd := scJob.nd
    have three : (3 : Nat) ≤ sizeLine := by decide
    have four : (4 : Nat) ≤ sizeLine := by decide
    have six : (6 : Nat) ≤ sizeLine := by decide
    refine ⟨_, (pss_cons (ps_set (i := 1) nd rfl (Or.inl rfl) (pe_ix ix_list (pe_lst (pa_cons pe_int (pa_cons (pe_call GD (hr.mono (by decide)) rfl mD kD bD .nil pass0 (pa_cons (pv 0) (pa_cons pe_int pa_nil))) (pa_cons (pe_call GD (hr.mono (by decide)) rfl mD kD bD .nil pass0 (pa_cons (pv 0) (pa_cons pe_int pa_nil))) (pa_cons (pe_op op_add (pe_call GD (hr.mono (by decide)) rfl mD kD bD .nil pass0 (pa_cons (pv 0) (pa_cons pe_int pa_nil))) (pe_call GD (hr.mono (by decide)) rfl mD kD bD .nil pass0 (pa_cons (pv 0) (pa_cons pe_int pa_nil)))) pa_nil))))) (pe_call GD (hr.mono (by decide)) rfl mD kD bD .nil pass0 (pa_cons (pv 0) (pa_cons pe_int pa_nil))) (fun _ _ => rfl)))
        (pss_cons (ps_set (i := 2) nd rfl (Or.inl rfl) (pe_ix ix_list (pe_lst (pa_cons pe_str (pa_cons pe_str (pa_cons pe_str pa_nil)))) (pe_call GD (hr.mono (by decide)) rfl mD kD bD .nil pass0 (pa_cons (pv 0) (pa_cons pe_int pa_nil))) (fun _ _ => rfl)))
        (pss_cons (ps_set (i := 3) nd rfl (Or.inl rfl) (pe_ix ix_list (pe_lst (pa_cons pe_int (pa_cons pe_int (pa_cons (pe_call GD (hr.mono (by decide)) rfl mD kD bD .nil pass0 (pa_cons (pv 0) (pa_cons pe_int pa_nil))) (pa_cons (pe_call GD (hr.mono (by decide)) rfl mD kD bD .nil pass0 (pa_cons (pv 0) (pa_cons pe_int pa_nil))) pa_nil))))) (pe_call GD (hr.mono (by decide)) rfl mD kD bD .nil pass0 (pa_cons (pv 0) (pa_cons pe_int pa_nil))) (fun _ _ => rfl)))
        (pss_cons (ps_set (i := 4) nd rfl (Or.inl rfl) pe_non)
        (C8.pss_cut (ps_if (pt_cmpR op_eq (pe_call GD (hr.mono (by decide)) rfl mD kD bD .nil pass0 (pa_cons (pv 0) (pa_cons pe_int pa_nil))) pe_int (nomark _)) (pss_one (ps_set (i := 4) nd rfl (Or.inl rfl) (pe_call GD (hr.mono (by decide)) rfl mD kD bD .nil pass0 (pa_cons (pv 0) (pa_cons pe_int pa_nil))))) pss_nil)
        (pss_one (ps_ret (pe_tup (pa_cons pe_str (pa_cons (pv 1) (pa_cons (pv 2) (pa_cons (pe_call GD (hr.mono (by decide)) rfl mD kD bD .nil pass0 (pa_cons (pv 0) (pa_cons pe_int pa_nil))) (pa_cons (pv 3) (pa_cons (pv 4) pa_nil)))))))))))))), ?_⟩
    -- duration
    refine ⟨_, rfl, b, 4, rfl, B, by decide, fun k1 H1 k10 k11 B1 U1 => ?_⟩
    refine ⟨_, rfl, b, 12, rfl, B1, by decide, fun k2 H2 k20 k21 B2 U2 => ?_⟩
    refine ⟨_, rfl, b, 1000, rfl, B2, by decide, fun k3 H3 k30 k31 B3 U3 => ?_⟩
    refine ⟨_, rfl, b, 2, rfl, B3, by decide, fun k4 H4 k40 k41 B4 U4 => ?_⟩
    refine ⟨_, _, rfl, rfl, four, fun l nl => ?_⟩
    refine ⟨_, rfl, b, 4, rfl, B4.new nl, by decide, fun r H5 r0 r1 B5 U5 => ?_⟩
    have hl := B4.keepL nl U5
    obtain ⟨d, hd, d0, d1⟩ : ∃ d : Int, atI [V.int 0, V.int k1, V.int k2, V.int (k3 + k4)] r = some (.int d) ∧ 0 ≤ d ∧ d ≤ 1000 := by
      have c : r = 0 ∨ r = 1 ∨ r = 2 ∨ r = 3 := by omega
      rcases c with rfl | rfl | rfl | rfl
      · exact ⟨_, rfl, by omega, by omega⟩
      · exact ⟨_, rfl, by omega, by omega⟩
      · exact ⟨_, rfl, by omega, by omega⟩
      · exact ⟨_, rfl, by omega, by omega⟩
    refine ⟨l, _, _, _, rfl, rfl, SqL.of hl, hd, ?_⟩
    have U := (((U1.trans U2).trans U3).trans U4).new (o := .lst [V.int 0, V.int k1, V.int k2, V.int (k3 + k4)]) nl |>.trans U5
    clear U1 U2 U3 U4 U5 hl hd nl B4 B3 B2 B1
    -- word
    refine ⟨three, fun l nl => ?_⟩
    refine ⟨_, rfl, b, 3, rfl, B5.new nl, by decide, fun r H6 r0 r1 B6 U6 => ?_⟩
    have hl := B5.keepL nl U6
    obtain ⟨g, hg⟩ : ∃ g : Bool, atI [V.str "gives", V.str "gives", V.str "throws"] r = some (.str (if g then "gives" else "throws")) := by
      have c : r = 0 ∨ r = 1 ∨ r = 2 := by omega
      rcases c with rfl | rfl | rfl
      · exact ⟨true, rfl⟩
      · exact ⟨true, rfl⟩
      · exact ⟨false, rfl⟩
    refine ⟨l, _, _, _, rfl, rfl, SqL.of hl, hg, ?_⟩
    have U := U.new (o := .lst [V.str "gives", V.str "gives", V.str "throws"]) nl |>.trans U6
    clear U6 hl hg nl B5
    -- cleanup
    refine ⟨_, rfl, b, 5, rfl, B6, by decide, fun k1 H7 k10 k11 B7 U7 => ?_⟩
    refine ⟨_, rfl, b, 101, rfl, B7, by decide, fun k2 H8 k20 k21 B8 U8 => ?_⟩
    refine ⟨four, fun l nl => ?_⟩
    refine ⟨_, rfl, b, 4, rfl, B8.new nl, by decide, fun r H9 r0 r1 B9 U9 => ?_⟩
    have hl := B8.keepL nl U9
    obtain ⟨c, hc, c0, c1⟩ : ∃ d : Int, atI [V.int 0, V.int 0, V.int k1, V.int k2] r = some (.int d) ∧ 0 ≤ d ∧ d ≤ 100 := by
      have c : r = 0 ∨ r = 1 ∨ r = 2 ∨ r = 3 := by omega
      rcases c with rfl | rfl | rfl | rfl
      · exact ⟨_, rfl, by omega, by omega⟩
      · exact ⟨_, rfl, by omega, by omega⟩
      · exact ⟨_, rfl, by omega, by omega⟩
      · exact ⟨_, rfl, by omega, by omega⟩
    refine ⟨l, _, _, _, rfl, rfl, SqL.of hl, hc, ?_⟩
    have U := ((U.trans U7).trans U8).new (o := .lst [V.int 0, V.int 0, V.int k1, V.int k2]) nl |>.trans U9
    clear U7 U8 U9 hl hc nl B8 B7 B6
    -- fault
    refine ⟨fun σ Hc => ∃ fo : Option Int, σ = [some (.ref b), some (.int d), some (.str (if g then "gives" else "throws")), some (.int c), some (optV fo)] ∧ Box Hc b ∧ But b H Hc ∧ ∀ x, fo = some x → 0 ≤ x ∧ x ≤ 999, ?_, ?_⟩
    · refine ⟨_, rfl, b, 3, rfl, B9, by decide, fun r HA r0 r1 BA UA => ?_⟩
      refine ⟨rfl, _, rfl, ite2 (fun _ => ?_) (fun _ => ?_)⟩
      · refine ⟨_, rfl, b, 1000, rfl, BA, by decide, fun x HB x0 x1 BB UB => ?_⟩
        exact ⟨some x, rfl, BB, (U.trans UA).trans UB, fun y e => by have e := Option.some.inj e; omega⟩
      · exact ⟨none, rfl, BA, U.trans UA, fun y e => by cases e⟩
    rintro σ Hc ⟨fo, rfl, BC, UC, hf⟩
    refine ⟨_, rfl, _, rfl, _, rfl, b, 1000, rfl, BC, by decide, fun x HD x0 x1 BD UD => ?_⟩
    refine ⟨_, rfl, _, rfl, six, fun p hp => ?_⟩
    exact q _ d g x c fo _ ⟨⟨d0, d1⟩, ⟨x0, by omega⟩, ⟨c0, c1⟩, hf⟩ (BD.new hp) ((UC.trans UD).new hp) ⟨p, rfl, SqT.of upd_same⟩
end
end LB


set_option maxRecDepth 100000
set_option maxHeartbeats 4000000
namespace LB
open PySem PySem.Spec PyProof.Rows L2
/-! ### words and tests -/
theorem atI_0 {x : V} {xs : List V} : atI (x :: xs) 0 = some x := atI_nat (j := 0) (v := x) (xs := x :: xs) rfl
theorem iteE {x y : Str} {A B : Prop} (h : x = y) (a : A) : if decide (V.str x = V.str y) = true then A else B := by rw [if_pos (decide_eq_true (congrArg V.str h))]; exact a
theorem iteN {x y : Str} {A B : Prop} (h : x ≠ y) (b : B) : if decide (V.str x = V.str y) = true then A else B := by rw [if_neg (fun c => h (V.str.inj (of_decide_eq_true c)))]; exact b
theorem ite_int {x y : Int} {A B : Prop} (h1 : x = y → A) (h2 : x ≠ y → B) : if decide (V.int x = V.int y) = true then A else B :=
  ite2 (fun c => h1 (V.int.inj (of_decide_eq_true c))) (fun c => h2 fun e => c (decide_eq_true (congrArg V.int e)))
theorem inTwo {x a b : Str} (h : inV (V.str x) [V.str a, V.str b] = true) : a = x ∨ b = x := by
  have h : ((a == x) || ((b == x) || false)) = true := h
  rw [Bool.or_false, Bool.or_eq_true] at h
  exact h.imp (fun e => eq_of_beq e) fun e => eq_of_beq e
theorem inTwo_of {x a b : Str} (h : a = x ∨ b = x) : inV (V.str x) [V.str a, V.str b] = true := by
  show ((a == x) || ((b == x) || false)) = true
  rw [Bool.or_false, Bool.or_eq_true]
  exact h.imp (fun e => beq_iff_eq.mpr e) fun e => beq_iff_eq.mpr e
/-! ### data under what stays -/
theorem sqT_same {K : PySem.W.Frag} {H H' : Hp} {a : Addr} {xs : List V} (e : Same H H') (h : SqT K H a xs) : SqT K H' a xs := (Tp.same e).seq h
theorem sqL_same {K : PySem.W.Frag} {H H' : Hp} {a : Addr} {xs : List V} (e : Same H H') (h : SqL K H a xs) : SqL K H' a xs := by
  rcases h with (h | ⟨o, h⟩) | h
  · exact .inl (.inl (e _ _ h))
  · exact .inl (.inr ⟨o, e _ _ h⟩)
  · exact .inr h
mutual
theorem dp_same {K : PySem.W.Frag} {H H' : Hp} (e : Same H H') : ∀ {v : V} {d : PyData}, Dp K H v d → Dp K H' v d
  | _, _, .non => .non
  | _, _, .bl b => .bl b
  | _, _, .int i => .int i
  | _, _, .str x => .str x
  | _, _, .lst h r => .lst (sqL_same e h) (dpAll_same e r)
  | _, _, .tup h r => .tup (sqT_same e h) (dpAll_same e r)
theorem dpAll_same {K : PySem.W.Frag} {H H' : Hp} (e : Same H H') : ∀ {vs : List V} {ds : List PyData}, DpAll K H vs ds → DpAll K H' vs ds
  | _, _, .nil => .nil
  | _, _, .cons h r => .cons (dp_same e h) (dpAll_same e r)
end
theorem dpI {K : PySem.W.Frag} {H : Hp} : ∀ {ns : List Int}, DpAll K H (ns.map V.int) (ns.map PyData.int)
  | [] => .nil
  | n :: r => .cons (.int n) dpI
theorem map_at {ns : List Int} {j : Nat} {x : V} (h : (ns.map V.int)[j]? = some x) : ∃ q, ns[j]? = some q ∧ x = .int q := by
  rw [List.getElem?_map] at h
  obtain ⟨q, h1, h2⟩ := Option.map_eq_some_iff.mp h
  exact ⟨q, h1, h2.symm⟩
theorem free_new {H : Hp} {p p2 : Addr} {o : HO} (n : H p = none) (n2 : (upd H p o) p2 = none) : H p2 = none := by
  by_cases e : p2 = p
  · rw [e]; exact n
  · rw [upd_ne e] at n2
    exact n2
/-- two items, one told before -/
theorem dp_two {K : PySem.W.Frag} {H : Hp} {r : V} {d : PyData} {k : Int} {p : Addr} (n : H p = none) (h : Dp K H r d) : Dp K (upd H p (.tup [r, .int k])) (.ref p) (.tuple [d, .int k]) :=
  .tup (SqT.of upd_same) (.cons (dp_same (same_new n) h) (.cons (.int _) .nil))
/-! ### comprehensions: one more walk -/
theorem in_tup {K : PySem.W.Frag} {a : Addr} {ys : List V} {Nx : Hp → Prop} {R : V → Hp → (Hp → Prop) → Prop} {H4 : Hp} (Pv : Nat → Hp → Prop) (h0 : Pv 0 H4) (hl : ∀ j H, j ≤ ys.length → Pv j H → SqT K H a ys)
    (hs : ∀ j y H, ys[j]? = some y → Pv j H → R y H (Pv (j + 1))) (hd : ∀ H, Pv ys.length H → Nx H) :
    ∃ W1 : Nat → Nat → Hp → Prop, (∃ m, W1 0 m H4) ∧ ∀ j k H, W1 j k H → ((Itt K a).stop j H ∧ Nx H) ∨ ((Itt K a).go j H ∧ ∃ Nx1 : Hp → Prop, (∀ H', Nx1 H' → ∃ k', k' < k ∧ W1 (j + 1) k' H') ∧ ∀ x H', (Itt K a).yld j H x H' → R x H' Nx1) := by
  refine ⟨fun i m H => m = ys.length - i ∧ i ≤ ys.length ∧ Pv i H, ⟨ys.length, by simp, Nat.zero_le _, h0⟩, ?_⟩
  rintro i m H ⟨rfl, hi, p⟩
  have q := hl i H hi p
  by_cases hlt : i < ys.length
  · refine .inr ⟨⟨ys, ys[i], q, by simp [hlt]⟩, Pv (i + 1), fun H' p' => ⟨ys.length - (i + 1), by omega, rfl, hlt, p'⟩, fun x H' y => ?_⟩
    obtain ⟨e, y⟩ := y
    subst e
    exact hs i x _ (y ys q) p
  · have e : i = ys.length := by omega
    subst e
    exact .inl ⟨⟨ys, q, Nat.le_refl _⟩, hd H p⟩
theorem takeS {α : Type} {l : List α} {i : Nat} {x : α} (h : l[i]? = some x) : l.take (i + 1) = l.take i ++ [x] := by
  rw [List.take_add_one, h]
  rfl
theorem ix_listK {X : Cx} {K : PySem.W.Frag} (h : X.K = K) : IxR X (rIxL K) := by
  subst h
  exact ix_list
theorem ix_tupK {X : Cx} {K : PySem.W.Frag} (h : X.K = K) : IxR X (rIxT K) := by
  subst h
  exact ix_tup
def rTupOf (K : PySem.W.Frag) : List V → Hp → VK → Prop := fun xs H Q => ∃ p ys, xs = [V.ref p] ∧ ((SqL K H p ys ∧ ∀ l, H l = none → Q (.ref l) (upd H l (.tup ys))) ∨ SqT K H p ys ∧ Q (.ref p) H)
theorem call_tupleK {X : Cx} {K : PySem.W.Frag} (h : X.K = K) : CallR X (.type "tuple") (rTupOf K) := by
  subst h
  exact call_tuple_of
theorem pi_tupK {X : Cx} {tg : Expr} {K : PySem.W.Frag} (h : X.K = K) {l : Expr} {tl : TE} (hl : PE X l tl) : PI X tg l (iTup K tl) := by
  subst h
  exact pi_tup hl
end LB

set_option maxRecDepth 100000
set_option maxHeartbeats 4000000
namespace LB
open PySem PySem.Spec PyProof.Rows L2
/-! ### instants -/
abbrev Ins := Int × Int
/-- v is this instant, or None -/
def At (K : PySem.W.Frag) (H : Hp) (v : V) : Option Ins → Prop
  | none => v = .non
  | some p => ∃ a, v = .ref a ∧ SqT K H a [.int p.1, .int p.2]
def leI (p q : Ins) : Bool := decide (p.1 < q.1 ∨ (p.1 = q.1 ∧ p.2 ≤ q.2))
def notAfter (o q : Option Ins) : Bool := match q with
  | none => true
  | some y => match o with
    | none => false
    | some x => leI x y
def earlier (o q : Option Ins) : Option Ins := if notAfter o q = true then o else q
def laterP (p : Ins) (k : Int) : Ins := if k = 0 then p else (p.1 + k, 0)
theorem lex_leI (p q : Ins) : Ob.lexAt (fun j => decide (([p.1, p.2] : List Int).getD j 0 = ([q.1, q.2] : List Int).getD j 0)) (fun j => decide (([p.1, p.2] : List Int).getD j 0 ≤ ([q.1, q.2] : List Int).getD j 0)) (decide (([p.1, p.2] : List Int).length ≤ ([q.1, q.2] : List Int).length)) 0 (min ([p.1, p.2] : List Int).length ([q.1, q.2] : List Int).length) = leI p q := by
  obtain ⟨a, b⟩ := p
  obtain ⟨c, d⟩ := q
  show (if decide (a = c) = true then (if decide (b = d) = true then true else decide (b ≤ d)) else decide (a ≤ c)) = decide (a < c ∨ (a = c ∧ b ≤ d))
  by_cases h1 : a = c
  · rw [if_pos (decide_eq_true h1)]
    by_cases h2 : b = d
    · rw [if_pos (decide_eq_true h2)]
      exact (decide_eq_true (by omega)).symm
    · rw [if_neg (by simpa using h2)]
      by_cases h3 : b ≤ d
      · rw [decide_eq_true h3]
        exact (decide_eq_true (by omega)).symm
      · rw [decide_eq_false h3]
        exact (decide_eq_false (by omega)).symm
  · rw [if_neg (by simpa using h1)]
    by_cases h3 : a ≤ c
    · rw [decide_eq_true h3]
      exact (decide_eq_true (by omega)).symm
    · rw [decide_eq_false h3]
      exact (decide_eq_false (by omega)).symm
theorem At.but {K : PySem.W.Frag} {b : Addr} {H H' : Hp} {v : V} {o : Option Ins} (B : Box H b) (x : But b H H') (h : At K H v o) : At K H' v o := by
  cases o with
  | none => exact h
  | some p =>
    obtain ⟨a, e, q⟩ := h
    exact ⟨a, e, B.tup x q⟩
theorem At.new {K : PySem.W.Frag} {H : Hp} {a : Addr} {v : V} {o : Option Ins} {u : HO} (n : H a = none) (h : At K H v o) : At K (upd H a u) v o := by
  cases o with
  | none => exact h
  | some p =>
    obtain ⟨c, e, q⟩ := h
    refine ⟨c, e, ?_⟩
    rcases q with (q | ⟨ob, q⟩) | q
    · exact .inl (.inl (by rw [upd_ne (ne_of_none q n)]; exact q))
    · exact .inl (.inr ⟨ob, by rw [upd_ne (ne_of_none q n)]; exact q⟩)
    · exact .inr q
theorem At.made {K : PySem.W.Frag} {H : Hp} {a : Addr} {t r : Int} : At K (upd H a (.tup [.int t, .int r])) (.ref a) (some (t, r)) := ⟨a, rfl, SqT.of upd_same⟩
theorem At.same {K : PySem.W.Frag} {H H' : Hp} {v : V} {o : Option Ins} (e : Same H H') (h : At K H v o) : At K H' v o := by
  cases o with
  | none => exact h
  | some p =>
    obtain ⟨a, z, q⟩ := h
    exact ⟨a, z, sqT_same e q⟩
/-! ### their data -/
def dIns : Option Ins → PyData
  | none => .none
  | some p => .tuple [.int p.1, .int p.2]
theorem At.dp {K : PySem.W.Frag} {H : Hp} {v : V} {o : Option Ins} (h : At K H v o) : Dp K H v (dIns o) := by
  cases o with
  | none => cases h; exact .non
  | some p =>
    obtain ⟨a, rfl, q⟩ := h
    exact .tup q (.cons (.int _) (.cons (.int _) .nil))
def SmI (o : Option Ins) : Prop := ∀ p, o = some p → Sm p.1 ∧ Sm p.2
theorem short_ins {o : Option Ins} (h : SmI o) : Short (dIns o) := by
  cases o with
  | none => exact .of (by decide) (by decide) (by decide) (by decide) (by decide)
  | some p =>
    obtain ⟨h1, h2⟩ := h p rfl
    have a1 := log_small h1
    have a2 := log_small h2
    have b1 := leaf_small h1
    have b2 := leaf_small h2
    refine .of ?_ ?_ ?_ ?_ ?_
    · show (PyData.showable (.int p.1) && (PyData.showable (.int p.2) && true)) = true
      rw [show PyData.showable (.int p.1) = true from decide_eq_true a1, show PyData.showable (.int p.2) = true from decide_eq_true a2] <;> rfl
    · rfl
    · show (max 0 (max 0 0)) + 1 ≤ 50
      decide
    · show (PyData.leavesShort 13 (.int p.1) && (PyData.leavesShort 13 (.int p.2) && true)) = true
      rw [show PyData.leavesShort 13 (.int p.1) = true from decide_eq_true b1, show PyData.leavesShort 13 (.int p.2) = true from decide_eq_true b2] <;> rfl
    · show 0 + 1 + (0 + 1 + 0) ≤ 2 ^ 20
      decide
section
variable {P : Program} {w : World} {K : PySem.W.Frag} {mg : Str → Option Value} {base : Heap}
/-- an instant, and ticks -/
def spLater (K : PySem.W.Frag) : Sp := fun vs H Q _ => ∃ (x : V) (p : Ins) (k : Int), vs = [x, .int k] ∧ At K H x (some p) ∧
  (k = 0 → Q x H) ∧ (k ≠ 0 → ∀ a, H a = none → Q (.ref a) (upd H a (.tup [.int (p.1 + k), .int 0])))
theorem scLater : FnScope ["instant", "ticks", "time", "_"] ["instant", "ticks"] (defScope sLater) := ⟨rfl, rfl, rfl, by decide +kernel, rfl, by decide +kernel, by decide +kernel⟩
theorem ok_later {f : Addr} {fd : FuncData} (F : Fun K "later" "later" sLater f fd) : FnOk P w K mg base CX0 1 f fd ["instant", "ticks"] (spLater K) := by
  refine F.ok scLater (fun vs H Q E h => ?_) (fun cdv A outer s H vs Q E hr h => ?_)
  · obtain ⟨x, p, k, rfl, _⟩ := h
    rfl
  · obtain ⟨x, p, k, rfl, ⟨a, rfl, ha⟩, q0, q1⟩ := h
    have nd := scLater.nd
    refine ⟨_, (pss_cons (ps_asg (pv 0) (pg_tup (by rfl) (pgs_cons (pg_name (i := 2) nd rfl (Or.inl rfl)) (pgs_cons (pg_name (i := 3) nd rfl (Or.inl rfl)) pgs_nil))))
        (pss_cons (ps_if (pt_cmpR op_eq (pv 1) pe_int (nomark _)) (pss_one (ps_ret (pv 0))) pss_nil)
        (pss_one (ps_ret (pe_tup (pa_cons (pe_op op_add (pv 2) (pv 1)) (pa_cons pe_int pa_nil))))))), ?_⟩
    refine ⟨_, rfl, a, _, rfl, ha, rfl, _, _, rfl, _, _, rfl, rfl, ?_⟩
    refine ⟨_, rfl, rfl, _, rfl, ite2 (fun c => ?_) (fun c => ?_)⟩
    · have e := of_decide_eq_true c
      cases e
      exact ⟨_, rfl, q0 rfl⟩
    · have e : k ≠ 0 := fun z => c (decide_eq_true (by rw [z]))
      exact ⟨_, rfl, _, rfl, _, _, rfl, rfl, (by show 2 ≤ sizeLine; decide), fun p hp => q1 e p hp⟩
def spNext (K : PySem.W.Frag) : Sp := fun vs H Q _ => ∃ (x : V) (p : Ins), vs = [x] ∧ At K H x (some p) ∧ ∀ a, H a = none → Q (.ref a) (upd H a (.tup [.int p.1, .int (p.2 + 1)]))
theorem scNext : FnScope ["instant", "time", "turn"] ["instant"] (defScope sNext) := ⟨rfl, rfl, rfl, by decide +kernel, rfl, by decide +kernel, by decide +kernel⟩
theorem ok_next {f : Addr} {fd : FuncData} (F : Fun K "next_instant" "next_instant" sNext f fd) : FnOk P w K mg base CX0 1 f fd ["instant"] (spNext K) := by
  refine F.ok scNext (fun vs H Q E h => ?_) (fun cdv A outer s H vs Q E hr h => ?_)
  · obtain ⟨x, p, rfl, _⟩ := h
    rfl
  · obtain ⟨x, p, rfl, ⟨a, rfl, ha⟩, q⟩ := h
    have nd := scNext.nd
    refine ⟨_, (pss_cons (ps_asg (pv 0) (pg_tup (by rfl) (pgs_cons (pg_name (i := 1) nd rfl (Or.inl rfl)) (pgs_cons (pg_name (i := 2) nd rfl (Or.inl rfl)) pgs_nil))))
        (pss_one (ps_ret (pe_tup (pa_cons (pv 1) (pa_cons (pe_op op_add (pv 2) pe_int) pa_nil)))))), ?_⟩
    refine ⟨_, rfl, a, _, rfl, ha, rfl, _, _, rfl, _, _, rfl, rfl, ?_⟩
    exact ⟨_, rfl, _, rfl, _, _, rfl, rfl, (by show 2 ≤ sizeLine; decide), fun p hp => q p hp⟩
def spNotAfter (K : PySem.W.Frag) : Sp := fun vs H Q _ => ∃ (x y : V) (o q : Option Ins), vs = [x, y] ∧ At K H x o ∧ At K H y q ∧ Q (.bl (notAfter o q)) H
theorem scNotAfter : FnScope ["instant", "cancel"] ["instant", "cancel"] (defScope sNotAfter) := ⟨rfl, rfl, rfl, by decide +kernel, rfl, by decide +kernel, by decide +kernel⟩
theorem ok_notafter {f : Addr} {fd : FuncData} (F : Fun K "not_after" "not_after" sNotAfter f fd) : FnOk P w K mg base CX0 1 f fd ["instant", "cancel"] (spNotAfter K) := by
  refine F.ok scNotAfter (fun vs H Q E h => ?_) (fun cdv A outer s H vs Q E hr h => ?_)
  · obtain ⟨x, y, o, q, rfl, _⟩ := h
    rfl
  · obtain ⟨x, y, o, q, rfl, hx, hy, k⟩ := h
    refine ⟨_, (pss_cons (ps_if (pt_cmpR op_isN (pv 1) pe_non (nomark _)) (pss_one (ps_ret pe_bl)) pss_nil)
        (pss_one (ps_ret (pe_and (pe_cmpR op_notN (pv 0) pe_non (nomark _)) (pe_one (pe_cmpR (op_leT hr.units0) (pv 0) (pv 1) (nomark _))))))), ?_⟩
    refine ⟨_, rfl, rfl, _, rfl, ?_⟩
    cases q with
    | none =>
      cases hy
      exact iteT k
    | some q =>
      obtain ⟨b, rfl, hb⟩ := hy
      refine iteF ⟨_, rfl, rfl, _, rfl, ?_⟩
      cases o with
      | none =>
        cases hx
        exact k
      | some o =>
        obtain ⟨a, rfl, ha⟩ := hx
        refine ⟨_, rfl, _, rfl, a, b, [o.1, o.2], [q.1, q.2], rfl, rfl, ha, hb, ?_⟩
        rw [lex_leI]
        exact k
def spLater' (K : PySem.W.Frag) : Sp := fun vs H Q _ => ∃ (x : V) (p : Ins) (k : Int), vs = [x, .int k] ∧ At K H x (some p) ∧ ∀ v H', Same H H' → At K H' v (some (laterP p k)) → Q v H'
theorem later_imp (vs : List V) (H : Hp) (Q : VK) (E : XK) (h : spLater' K vs H Q E) : spLater K vs H Q E := by
  obtain ⟨x, p, k, rfl, hx, q⟩ := h
  refine ⟨x, p, k, rfl, hx, fun e => ?_, fun e a n => ?_⟩
  · exact q x H (Same.refl H) (by unfold laterP; rw [if_pos e]; exact hx)
  · refine q _ _ (same_new n) ?_
    unfold laterP
    rw [if_neg e]
    exact At.made
def spNext' (K : PySem.W.Frag) : Sp := fun vs H Q _ => ∃ (x : V) (p : Ins), vs = [x] ∧ At K H x (some p) ∧ ∀ v H', Same H H' → At K H' v (some (p.1, p.2 + 1)) → Q v H'
theorem next_imp (vs : List V) (H : Hp) (Q : VK) (E : XK) (h : spNext' K vs H Q E) : spNext K vs H Q E := by
  obtain ⟨x, p, rfl, hx, q⟩ := h
  exact ⟨x, p, rfl, hx, fun a n => q _ _ (same_new n) At.made⟩
end
end LB

set_option maxRecDepth 100000
set_option maxHeartbeats 8000000
namespace LB
open PySem PySem.Spec PyProof.Rows L2
/-! ### ends of jobs -/
abbrev En := Ins × Str × List Int
def EnAt (K : PySem.W.Frag) (H : Hp) (v : V) (e : En) : Prop := ∃ a va vr, v = .ref a ∧ SqT K H a [va, .str e.2.1, .ref vr] ∧ At K H va (some e.1) ∧ SqT K H vr (e.2.2.map V.int)
theorem EnAt.same {K : PySem.W.Frag} {H H' : Hp} {v : V} {e : En} (S : Same H H') (h : EnAt K H v e) : EnAt K H' v e := let ⟨a, va, vr, x, s, p, r⟩ := h; ⟨a, va, vr, x, sqT_same S s, p.same S, sqT_same S r⟩
theorem At.tp {K : PySem.W.Frag} {H H' : Hp} {v : V} {o : Option Ins} (t : TpK K H H') (h : At K H v o) : At K H' v o := by
  cases o with
  | none => exact h
  | some p =>
    obtain ⟨a, e, q⟩ := h
    exact ⟨a, e, t _ _ q⟩
theorem EnAt.tp {K : PySem.W.Frag} {H H' : Hp} {v : V} {e : En} (t : TpK K H H') (h : EnAt K H v e) : EnAt K H' v e := let ⟨a, va, vr, x, s, p, r⟩ := h; ⟨a, va, vr, x, t _ _ s, p.tp t, t _ _ r⟩
def dEn (e : En) : PyData := .tuple [dIns (some e.1), .str e.2.1, .tuple (e.2.2.map .int)]
theorem EnAt.dp {K : PySem.W.Frag} {H : Hp} {v : V} {e : En} (h : EnAt K H v e) : Dp K H v (dEn e) := by
  obtain ⟨a, va, vr, rfl, s, p, r⟩ := h
  exact .tup s (.cons p.dp (.cons (.str _) (.cons (.tup r dpI) .nil)))
def doneW (g : Bool) : Str := if g then "completed" else "failed"
/-- a job that was cancelled at q, behind its cleanup -/
def cutEn (c : Int) (f : Option Int) (q : Ins) : En :=
  match f with
  | none => (laterP (q.1, q.2 + 1) c, "cancelled", [])
  | some y => (laterP (q.1, q.2 + 1) c, "failed", [y])
/-- a job, started at s, cancelled at o or never -/
def jobEn (d : Int) (g : Bool) (x c : Int) (f : Option Int) (s : Ins) : Option Ins → En
  | none => (laterP s d, doneW g, [x])
  | some q => if leI (laterP s d) q = true then (laterP s d, doneW g, [x]) else cutEn c f q
section
variable {P : Program} {w : World} {K : PySem.W.Frag} {mg : Str → Option Value} {base : Heap} {C fI cc cda : Addr}
def spCheckC (K : PySem.W.Frag) (C : Addr) : Sp := fun vs H Q E => ∃ (x y : V) (s : Ins) (o : Option Ins), vs = [x, y] ∧ At K H x (some s) ∧ At K H y o ∧ (notAfter (some s) o = true → Q .non H) ∧
  (notAfter (some s) o = false → ∀ d : Addr, H d = none → E (.ref C) (some d) (upd H d (.xd [(("name" : Str), .str "cancel")])))
theorem scCC : FnScope ["start", "cancel"] ["start", "cancel"] (defScope sCheckCancel) := ⟨rfl, rfl, rfl, by decide +kernel, rfl, by decide +kernel, by decide +kernel⟩
theorem ok_checkc {f fN : Addr} {fd fdN : FuncData} (F : Fun K "check_cancel" "check_cancel" sCheckCancel f fd) (T : Oor K mg P "OutOfRange" C fI cc cda) (FN : Fun K "not_after" "not_after" sNotAfter fN fdN) (mN : mg "not_after" = some (.ref fN)) (bN : Binds K fdN ["instant", "cancel"] []) :
    FnOk P w K mg base (L2.CX P w) 3 f fd ["start", "cancel"] (spCheckC K C) := by
  have GN : FnOk P w K mg base CX0 1 fN fdN ["instant", "cancel"] (spNotAfter K) := ok_notafter FN
  have kN := FN.kp
  refine F.okX scCC (fun vs H Q E h => ?_) (fun cdv A outer s H vs Q E hr h => ?_)
  · obtain ⟨x, y, s, o, rfl, _⟩ := h
    rfl
  · obtain ⟨x, y, s, o, rfl, hx, hy, q1, q2⟩ := h
    have nd := scCC.nd
    refine ⟨_, (pss_one (ps_if (pt_not (pt_val (pe_call GN (hr.mono (by decide)) rfl mN kN bN .nil pass0 (pa_cons (pv 0) (pa_cons (pv 1) pa_nil))))) (pss_one (ps_raiseErr (W := fun cls d _ H' => E cls d H') rfl T hr (takes_of rfl rfl rfl rfl) (pa_cons pe_str pa_nil) rfl (by decide))) pss_nil)), ?_⟩
    refine ⟨_, rfl, _, rfl, x, y, _, o, rfl, hx, hy, _, rfl, ?_⟩
    cases hn : notAfter (some s) o with
    | true => exact q1 hn
    | false => exact ⟨"cancel", rfl, by decide, q2 hn⟩
def spJobEnd (K : PySem.W.Frag) (C : Addr) : Sp := fun vs H Q E => ∃ (nv x y : V) (d : Int) (g : Bool) (v c : Int) (f : Option Int) (s : Ins) (o : Option Ins), vs = [nv, x, y] ∧ NdAt K H nv (.job d g v c f) ∧ At K H x (some s) ∧ At K H y o ∧
  (notAfter (some s) o = true → ∀ r H', Same H H' → EnAt K H' r (jobEn d g v c f s o) → Q r H') ∧
  (notAfter (some s) o = false → ∀ d : Addr, H d = none → E (.ref C) (some d) (upd H d (.xd [(("name" : Str), .str "cancel")])))
theorem scJE : FnScope ["node", "start", "cancel", "_", "duration", "word", "value", "cleanup", "fault", "ended"] ["node", "start", "cancel"] (defScope sJobEnd) := ⟨rfl, rfl, rfl, by decide +kernel, rfl, by decide +kernel, by decide +kernel⟩
theorem ok_jobend {f fN fC fL fX : Addr} {fd fdN fdC fdL fdX : FuncData} (F : Fun K "job_end" "job_end" sJobEnd f fd) (T : Oor K mg P "OutOfRange" C fI cc cda) (FN : Fun K "not_after" "not_after" sNotAfter fN fdN) (mN : mg "not_after" = some (.ref fN)) (bN : Binds K fdN ["instant", "cancel"] [])
    (FC : Fun K "check_cancel" "check_cancel" sCheckCancel fC fdC) (mC : mg "check_cancel" = some (.ref fC)) (bC : Binds K fdC ["start", "cancel"] []) (FL : Fun K "later" "later" sLater fL fdL) (mL : mg "later" = some (.ref fL)) (bL : Binds K fdL ["instant", "ticks"] [])
    (FX : Fun K "next_instant" "next_instant" sNext fX fdX) (mX : mg "next_instant" = some (.ref fX)) (bX : Binds K fdX ["instant"] []) : FnOk P w K mg base (L2.CX P w) 4 f fd ["node", "start", "cancel"] (spJobEnd K C) := by
  have GN : FnOk P w K mg base CX0 1 fN fdN ["instant", "cancel"] (spNotAfter K) := ok_notafter FN
  have GC : FnOk P w K mg base (L2.CX P w) 3 fC fdC ["start", "cancel"] (spCheckC K C) := ok_checkc FC T FN mN bN
  have GL : FnOk P w K mg base CX0 1 fL fdL ["instant", "ticks"] (spLater' K) := (ok_later FL).imp later_imp
  have GX : FnOk P w K mg base CX0 1 fX fdX ["instant"] (spNext' K) := (ok_next FX).imp next_imp
  have kN := FN.kp
  have kC := FC.kp
  have kL := FL.kp
  have kX := FX.kp
  refine F.okX scJE (fun vs H Q E h => ?_) (fun cdv A outer s H vs Q E hr h => ?_)
  · obtain ⟨nv, x, y, d, g, v, c, f, s, o, rfl, _⟩ := h
    rfl
  · obtain ⟨nv, x, y, d, g, v, c, f, s, o, rfl, ⟨a, rfl, hn⟩, hx, hy, q1, q2⟩ := h
    have nd := scJE.nd
    refine ⟨_, (pss_cons (ps_expr (pe_call GC (hr.mono (by decide)) rfl mC kC bC .nil (passes_call (takes_of rfl rfl rfl rfl) (fun _ _ _ _ h => h)) (pa_cons (pv 1) (pa_cons (pv 2) pa_nil))))
        (pss_cons (ps_asg (pv 0) (pg_tup (by rfl) (pgs_cons (pg_name (i := 3) nd rfl (Or.inl rfl)) (pgs_cons (pg_name (i := 4) nd rfl (Or.inl rfl)) (pgs_cons (pg_name (i := 5) nd rfl (Or.inl rfl)) (pgs_cons (pg_name (i := 6) nd rfl (Or.inl rfl)) (pgs_cons (pg_name (i := 7) nd rfl (Or.inl rfl)) (pgs_cons (pg_name (i := 8) nd rfl (Or.inl rfl)) pgs_nil))))))))
        (pss_cons (ps_set (i := 9) nd rfl (Or.inl rfl) (pe_call GL (hr.mono (by decide)) rfl mL kL bL .nil pass0 (pa_cons (pv 1) (pa_cons (pv 4) pa_nil))))
        (pss_cons (ps_if (pt_val (pe_call GN (hr.mono (by decide)) rfl mN kN bN .nil pass0 (pa_cons (pv 9) (pa_cons (pv 2) pa_nil)))) (pss_one (ps_ret (pe_tup (pa_cons (pv 9) (pa_cons (pe_ifExp (pt_cmpR op_eq (pv 5) pe_str (nomark _)) pe_str pe_str) (pa_cons (pe_tup (pa_cons (pv 6) pa_nil)) pa_nil)))))) pss_nil)
        (pss_cons (ps_set (i := 9) nd rfl (Or.inl rfl) (pe_call GL (hr.mono (by decide)) rfl mL kL bL .nil pass0 (pa_cons (pe_call GX (hr.mono (by decide)) rfl mX kX bX .nil pass0 (pa_cons (pv 2) pa_nil)) (pa_cons (pv 7) pa_nil))))
        (pss_cons (ps_if (pt_cmpR op_isN (pv 8) pe_non (nomark _)) (pss_one (ps_ret (pe_tup (pa_cons (pv 9) (pa_cons pe_str (pa_cons (pe_tup pa_nil) pa_nil)))))) pss_nil)
        (pss_one (ps_ret (pe_tup (pa_cons (pv 9) (pa_cons pe_str (pa_cons (pe_tup (pa_cons (pv 8) pa_nil)) pa_nil)))))))))))), ?_⟩
    refine ⟨_, rfl, _, rfl, x, y, s, o, rfl, hx, hy, fun ha => ?_, q2⟩
    have q1 := q1 ha
    refine ⟨_, rfl, a, _, rfl, hn, rfl, _, _, rfl, _, _, rfl, _, _, rfl, _, _, rfl, _, _, rfl, _, _, rfl, rfl, ?_⟩
    refine ⟨_, rfl, _, rfl, x, s, d, rfl, hx, fun r H1 S1 ar => ?_⟩
    have hy1 := hy.same S1
    have one : (1 : Nat) ≤ sizeLine := by decide
    have three : (3 : Nat) ≤ sizeLine := by decide
    -- its own end
    have own : notAfter (some (laterP s d)) o = true → jobEn d g v c f s o = (laterP s d, doneW g, [v]) := fun z => by
      unfold jobEn
      cases o with
      | none => rfl
      | some q => exact if_pos z
    have cut : notAfter (some (laterP s d)) o = false → ∃ q, o = some q ∧ jobEn d g v c f s o = cutEn c f q := fun z => by
      cases o with
      | none => cases z
      | some q => exact ⟨q, rfl, if_neg (show ¬ leI (laterP s d) q = true from fun y => Bool.noConfusion (y.symm.trans z))⟩
    have done : ∀ (H2 : Hp) (z : Str), Same H H2 → At K H2 r (some (laterP s d)) → z = doneW g → notAfter (some (laterP s d)) o = true → ∀ t u, H2 t = none → (upd H2 t (.tup [.int v])) u = none →
        Q (.ref u) (upd (upd H2 t (.tup [.int v])) u (.tup [r, .str z, .ref t])) := fun H2 z S2 ar2 ez na t u nt nu => by
      have S3 := (same_new (o := .tup [.int v]) nt)
      have S4 := (same_new (o := .tup [r, .str z, .ref t]) nu)
      refine q1 _ _ ((S2.trans S3).trans S4) ?_
      rw [own na]
      exact ⟨u, r, t, rfl, by rw [← ez]; exact SqT.of upd_same, (ar2.same S3).same S4, sqT_same S4 (SqT.of upd_same)⟩
    refine ⟨_, rfl, _, rfl, r, y, _, o, rfl, ar, hy1, _, rfl, ?_⟩
    cases hn2 : notAfter (some (laterP s d)) o with
    | true =>
      refine iteT ⟨_, rfl, _, rfl, rfl, _, rfl, ?_⟩
      cases g with
      | true => exact iteT ⟨_, rfl, one, fun t nt => ⟨three, fun u nu => done _ _ S1 ar rfl hn2 t u nt nu⟩⟩
      | false => exact iteF ⟨_, rfl, one, fun t nt => ⟨three, fun u nu => done _ _ S1 ar rfl hn2 t u nt nu⟩⟩
    | false =>
      obtain ⟨q, rfl, ej⟩ := cut hn2
      refine iteF ?_
      refine ⟨_, rfl, _, q, rfl, hy1, fun r2 H2 S2 ar2 => ⟨_, rfl, _, _, c, rfl, ar2, fun r3 H3 S3 ar3 => ?_⟩⟩
      cases f with
      | none =>
        refine ⟨_, rfl, rfl, _, rfl, iteT ⟨_, rfl, (by show 0 ≤ sizeLine; decide), fun t nt => ⟨three, fun u nu => ?_⟩⟩⟩
        have S4 := (same_new (o := .tup []) nt)
        have S5 := (same_new (o := .tup [r3, .str "cancelled", .ref t]) nu)
        refine q1 _ _ ((((S1.trans S2).trans S3).trans S4).trans S5) ?_
        rw [ej]
        exact ⟨u, r3, t, rfl, SqT.of upd_same, (ar3.same S4).same S5, sqT_same S5 (SqT.of upd_same)⟩
      | some z =>
        refine ⟨_, rfl, rfl, _, rfl, iteF ⟨_, rfl, _, rfl, one, fun t nt => ⟨three, fun u nu => ?_⟩⟩⟩
        have S4 := (same_new (o := .tup [.int z]) nt)
        have S5 := (same_new (o := .tup [r3, .str "failed", .ref t]) nu)
        refine q1 _ _ ((((S1.trans S2).trans S3).trans S4).trans S5) ?_
        rw [ej]
        exact ⟨u, r3, t, rfl, SqT.of upd_same, (ar3.same S4).same S5, sqT_same S5 (SqT.of upd_same)⟩
end
end LB

set_option maxRecDepth 100000
set_option maxHeartbeats 8000000
namespace LB
open PySem PySem.Spec PyProof.Rows L2
/-! ### foresights of one job -/
def fsF (pl kd : Addr) : List (Str × V) := putF "known" (.ref kd) (putF "plan" (.ref pl) [])
theorem fs_ne : ¬ (("plan" : Str) = "known") := by decide +kernel
theorem fsF_plan (pl kd : Addr) : (fsF pl kd).lookup ("plan" : Str) = some (.ref pl) := by
  unfold fsF
  rw [lookup_putF, if_neg fs_ne, lookup_putF, if_pos rfl]
theorem fsF_known (pl kd : Addr) : (fsF pl kd).lookup ("known" : Str) = some (.ref kd) := by
  unfold fsF
  rw [lookup_putF, if_pos rfl]
theorem fsF_no (pl kd : Addr) {m : Str} (h1 : ¬ m = "known") (h2 : ¬ m = "plan") : (fsF pl kd).lookup m = none := by
  unfold fsF
  rw [lookup_putF, if_neg h1, lookup_putF, if_neg h2]
  all_goals rfl
/-- all stands but what is at d -/
def FrD (d : Addr) (H H' : Hp) : Prop := ∀ b o, b ≠ d → H b = some o → H' b = some o
theorem FrD.refl {d : Addr} {H : Hp} : FrD d H H := fun _ _ _ h => h
theorem FrD.trans {d : Addr} {H H1 H2 : Hp} (x : FrD d H H1) (y : FrD d H1 H2) : FrD d H H2 := fun b o n h => y b o n (x b o n h)
theorem FrD.of {d : Addr} {H H' : Hp} (S : Same H H') : FrD d H H' := fun b o _ h => S b o h
theorem FrD.tp {K : PySem.W.Frag} {d : Addr} {H H' : Hp} {w : World} {kvs : List (NestedKey × V)} (D : ND K w H d kvs) (F : FrD d H H') : TpK K H H' := fun a ys q => by
  obtain ⟨xs, h1, _⟩ := D
  rcases q with (q | ⟨ob, q⟩) | q
  · exact .inl (.inl (F a _ (ne_of q h1 (by intro z; cases z)) q))
  · exact .inl (.inr ⟨ob, F a _ (ne_of q h1 (by intro z; cases z)) q⟩)
  · exact .inr q
def kyI : Option Ins → NestedKey
  | none => .none
  | some p => .tup [.num p.1, .num p.2]
def kyC (s : Ins) (o : Option Ins) : NestedKey := .tup [.num 0, kyI (some s), kyI o]
theorem kyI_inj {o q : Option Ins} (h : kyI o = kyI q) : o = q := by
  cases o with
  | none => cases q with
    | none => rfl
    | some q => cases h
  | some o => cases q with
    | none => cases h
    | some q =>
      injection h with h
      injection h with h1 h2
      injection h2 with h2
      injection h1 with h1
      injection h2 with h2
      exact congrArg some (Prod.ext h1 h2)
theorem kyC_inj {s t : Ins} {o q : Option Ins} (h : kyC s o = kyC t q) : s = t ∧ o = q := by
  injection h with h
  injection h with _ h
  injection h with h1 h2
  injection h2 with h2
  exact ⟨Option.some.inj (kyI_inj h1), kyI_inj h2⟩
theorem kyI_at {K : PySem.W.Frag} {H : Hp} {v : V} {o : Option Ins} (h : At K H v o) : KyAt K H v (kyI o) := by
  cases o with
  | none => cases h; exact .non
  | some p =>
    obtain ⟨a, rfl, q⟩ := h
    exact .tup q (.cons (.int _) (.cons (.int _) .nil))
theorem kyC_deep (s : Ins) (o : Option Ins) : (kyC s o).depth ≤ 8 := by
  cases o with
  | none => exact (by decide : (4 : Nat) ≤ 8) |> fun _ => by simp [kyC, kyI, NestedKey.depth, NestedKey.depthAll]
  | some q => simp [kyC, kyI, NestedKey.depth, NestedKey.depthAll]
/-- the course of the job -/
def CoAt (K : PySem.W.Frag) (H : Hp) (v : V) (e : En) : Prop := ∃ a ve l, v = .ref a ∧ SqT K H a [ve, .ref l] ∧ EnAt K H ve e ∧ H l = some (.lst [])
/-- a foresight at x of the plan of one job j, and what it knows -/
structure Sees (K : PySem.W.Frag) (w : World) (C : Addr) (j : Ins → Option Ins → En) (n : Nat) (H : Hp) (x pl kd : Addr) : Prop where
  x_ : ∃ dx, H x = some (.ins C dx (fsF pl kd))
  kn : ∃ kvs, ND K w H kd kvs ∧ kvs.length ≤ n ∧ ∀ k v, (k, v) ∈ kvs → ∃ s o, k = kyC s o ∧ CoAt K H v (j s o)
section
variable {K : PySem.W.Frag} {w : World} {C : Addr} {j : Ins → Option Ins → En} {n : Nat} {H H' : Hp} {x pl kd : Addr}
theorem CoAt.fr {v : V} {e : En} (h : CoAt K H v e) {kvs : List (NestedKey × V)} (D : ND K w H kd kvs) (F : FrD kd H H') : CoAt K H' v e := by
  obtain ⟨a, ve, l, e1, s, q, hl⟩ := h
  have t := FrD.tp D F
  obtain ⟨xs, h1, _⟩ := D
  exact ⟨a, ve, l, e1, t _ _ s, q.tp t, F _ _ (ne_of hl h1 (by intro z; cases z)) hl⟩
theorem same_tpk (S : Same H H') : TpK K H H' := fun _ _ h => sqT_same S h
theorem Sees.same (D : Sees K w C j n H x pl kd) (S : Same H H') : Sees K w C j n H' x pl kd := by
  obtain ⟨⟨dx, hx⟩, kvs, nd, hl, hk⟩ := D
  have nd' := nd
  obtain ⟨xs, h1, _⟩ := nd'
  refine ⟨⟨dx, S _ _ hx⟩, kvs, nd.tp (same_tpk S) (h1.trans (S _ _ h1).symm), hl, fun k v m => ?_⟩
  obtain ⟨s, o, e, c⟩ := hk k v m
  exact ⟨s, o, e, c.fr nd (FrD.of S)⟩
theorem Sees.tp (D : Sees K w C j n H x pl kd) (F : FrD kd H H') : TpK K H H' := by
  obtain ⟨_, kvs, nd, _⟩ := D
  exact FrD.tp nd F
theorem Sees.more {m : Nat} (D : Sees K w C j n H x pl kd) (h : n ≤ m) : Sees K w C j m H x pl kd := let ⟨a, kvs, b, c, d⟩ := D; ⟨a, kvs, b, Nat.le_trans c h, d⟩
theorem valV_mem {kvs : List (NestedKey × V)} {k : NestedKey} {v : V} (h : valV kvs k = some v) : (k, v) ∈ kvs := by
  induction kvs with
  | nil => cases h
  | cons p r ih =>
    by_cases e : p.1 = k
    · rw [valV_pos e] at h
      cases h
      rw [← e]
      exact List.mem_cons_self ..
    · rw [valV_neg e] at h
      exact List.mem_cons_of_mem _ (ih h)
end
section
variable {P : Program} {w : World} {K : PySem.W.Frag} {mg : Str → Option Value} {base : Heap} {C fI cc cda : Addr}
structure ClsF (K : PySem.W.Frag) (C : Addr) : Prop where
  cl : Cls K C
  nP : NoAttr K C "plan"
  nK : NoAttr K C "known"
def spInit (K : PySem.W.Frag) (w : World) (C : Addr) : Sp := fun vs H Q _ => ∃ (x dx pl : Addr), vs = [.ref x, .ref pl] ∧ H x = some (.ins C dx []) ∧
  ∀ kd H', (∀ b o, b ≠ x → H b = some o → H' b = some o) → H kd = none → (∀ j, Sees K w C j 0 H' x pl kd) → Q .non H'
theorem scIn : FnScope ["self", "plan"] ["self", "plan"] (defScope fsinit) := ⟨rfl, rfl, rfl, by decide +kernel, rfl, by decide +kernel, by decide +kernel⟩
theorem ok_init {f F0 : Addr} {fd : FuncData} (F : Fun K "__init__" "Foresight.__init__" fsinit f fd) (T : ClsF K F0) : FnOk P w K mg base CX0 1 f fd ["self", "plan"] (spInit K w F0) := by
  refine F.ok scIn (fun vs H Q E h => ?_) (fun cdv A outer s H vs Q E hr h => ?_)
  · obtain ⟨x, dx, pl, rfl, _⟩ := h
    rfl
  · obtain ⟨x, dx, pl, rfl, hx, q⟩ := h
    have nd := scIn.nd
    refine ⟨_, (pss_cons (ps_fld (pv 0) (pv 1) rfl)
        (pss_one (ps_fld (pv 0) pe_ndnew rfl))), ?_⟩
    refine ⟨_, rfl, _, rfl, x, F0, dx, _, rfl, hx, T.cl, T.nP, (by show 0 < 1000; decide), fun kd nk D => ?_⟩
    have kx : kd ≠ x := fun z => by rw [z, upd_same] at nk; cases nk
    refine ⟨_, rfl, x, F0, dx, _, rfl, (by rw [upd_ne (Ne.symm kx)]; exact upd_same), T.cl, T.nK, (by show 1 < 1000; decide), ?_⟩
    refine q kd _ (fun b o hb e => ?_) (by rw [upd_ne kx] at nk; exact nk) (fun j => ⟨⟨dx, upd_same⟩, [], ?_, Nat.le_refl _, fun k v m => nomatch m⟩)
    · have bk : b ≠ kd := fun z => by rw [z] at e; rw [upd_ne kx, e] at nk; cases nk
      rw [upd_ne hb, upd_ne bk, upd_ne hb]
      exact e
    · refine D.tp (fun a ys q => ?_) (by rw [upd_ne kx])
      have hxx : upd (upd H x (.ins F0 dx (putF "plan" (.ref pl) []))) kd (NDo w kd []) x = some (.ins F0 dx (putF "plan" (.ref pl) [])) := by rw [upd_ne (Ne.symm kx)]; exact upd_same
      rcases q with (q | ⟨ob, q⟩) | q
      · exact .inl (.inl (by rw [upd_ne (ne_of q hxx (by intro z; cases z))]; exact q))
      · exact .inl (.inr ⟨ob, by rw [upd_ne (ne_of q hxx (by intro z; cases z))]; exact q⟩)
      · exact .inr q
/-- the plan of one job -/
def OneP (K : PySem.W.Frag) (H : Hp) (pl : Addr) (d : Int) (g : Bool) (v c : Int) (f : Option Int) : Prop := ∃ nv, SqT K H pl [nv] ∧ NdAt K H nv (.job d g v c f)
theorem OneP.tp {H H' : Hp} {pl : Addr} {d : Int} {g : Bool} {v c : Int} {f : Option Int} (t : TpK K H H') (h : OneP K H pl d g v c f) : OneP K H' pl d g v c f := by
  obtain ⟨nv, s, a, e, q⟩ := h
  exact ⟨nv, t _ _ s, a, e, t _ _ q⟩
def spFind (K : PySem.W.Frag) : Sp := fun vs H Q _ => ∃ (x : Addr) (nv sv cv : V) (d : Int) (g : Bool) (v c : Int) (f : Option Int) (s : Ins) (o : Option Ins), vs = [.ref x, nv, sv, cv] ∧ NdAt K H nv (.job d g v c f) ∧ At K H sv (some s) ∧ At K H cv o ∧ notAfter (some s) o = true ∧
  ∀ r H', Same H H' → CoAt K H' r (jobEn d g v c f s o) → Q r H'
theorem scFi : FnScope ["self", "node", "start", "cancel", "word"] ["self", "node", "start", "cancel"] (defScope fsfind_course) := ⟨rfl, rfl, rfl, by decide +kernel, rfl, by decide +kernel, by decide +kernel⟩
theorem ok_find {f fJ : Addr} {fd fdJ : FuncData} (F : Fun K "find_course" "Foresight.find_course" fsfind_course f fd) (GJ : FnOk P w K mg base (L2.CX P w) 4 fJ fdJ ["node", "start", "cancel"] (spJobEnd K C)) (mJ : mg "job_end" = some (.ref fJ)) (kJ : PySem.W.keepIn K (.ref fJ) = true) (bJ : Binds K fdJ ["node", "start", "cancel"] []) :
    FnOk P w K mg base CX0 5 f fd ["self", "node", "start", "cancel"] (spFind K) := by
  have GJ : FnOk P w K mg base CX0 4 fJ fdJ ["node", "start", "cancel"] (fun vs H Q _ => ∃ (nv x y : V) (d : Int) (g : Bool) (v c : Int) (f : Option Int) (s : Ins) (o : Option Ins), vs = [nv, x, y] ∧ NdAt K H nv (.job d g v c f) ∧ At K H x (some s) ∧ At K H y o ∧ notAfter (some s) o = true ∧
      ∀ r H', Same H H' → EnAt K H' r (jobEn d g v c f s o) → Q r H') := fn_calm GJ fun vs H Q E ⟨nv, x, y, d, g, v, c, f, s, o, e, h1, h2, h3, h4, q⟩ => ⟨nv, x, y, d, g, v, c, f, s, o, e, h1, h2, h3, fun _ => q, fun z => by rw [h4] at z; cases z⟩
  refine F.ok scFi (fun vs H Q E h => ?_) (fun cdv A outer s H vs Q E hr h => ?_)
  · obtain ⟨x, nv, sv, cv, d, g, v, c, f, s, o, rfl, _⟩ := h
    rfl
  · obtain ⟨x, nv, sv, cv, d, g, v, c, f, s, o, rfl, hn, hs, ho, hna, q⟩ := h
    have nd := scFi.nd
    refine ⟨_, (pss_cons (ps_set (i := 4) nd rfl (Or.inl rfl) (pe_ix ix_tup (pv 1) pe_int (fun _ _ => rfl)))
        (pss_cons (ps_if (pt_cmpR op_eq (pv 4) pe_str (nomark _)) (pss_one (ps_ret (pe_tup (pa_cons (pe_call GJ (hr.mono (by decide)) rfl mJ kJ bJ .nil pass0 (pa_cons (pv 1) (pa_cons (pv 2) (pa_cons (pv 3) pa_nil)))) (pa_cons (pe_lst pa_nil) pa_nil))))) pss_nil)
        pss_no)), ?_⟩
    obtain ⟨a, rfl, sn⟩ := id hn
    refine ⟨_, rfl, a, _, _, _, rfl, rfl, sn, atI_0, ?_⟩
    refine ⟨_, rfl, rfl, _, rfl, iteE rfl ?_⟩
    refine ⟨_, rfl, _, rfl, _, rfl, _, sv, cv, d, g, v, c, f, s, o, rfl, hn, hs, ho, hna, fun r H1 S1 er => ⟨(by show 0 ≤ sizeLine; decide), fun l nl => ⟨(by show 2 ≤ sizeLine; decide), fun t nt => ?_⟩⟩⟩
    have S2 := same_new (o := .lst []) nl
    have S3 := same_new (o := .tup [r, .ref l]) nt
    exact q _ _ ((S1.trans S2).trans S3) ⟨t, r, l, rfl, SqT.of upd_same, (er.same S2).same S3, S3 _ _ upd_same⟩
/-- what the sight's def asks and leaves -/
def spCourse (K : PySem.W.Frag) (w : World) (C : Addr) (Res : Hp → V → En → Prop) : Sp := fun vs H Q _ => ∃ (x pl kd : Addr) (sv cv : V) (d : Int) (g : Bool) (v c : Int) (f : Option Int) (s : Ins) (o : Option Ins) (n : Nat), vs = [.ref x, .int 0, sv, cv] ∧ Sees K w C (jobEn d g v c f) n H x pl kd ∧ n ≤ 100 ∧
  OneP K H pl d g v c f ∧ At K H sv (some s) ∧ At K H cv o ∧ notAfter (some s) o = true ∧
  ∀ r H', FrD kd H H' → Sees K w C (jobEn d g v c f) (n + 1) H' x pl kd → Res H' r (jobEn d g v c f s o) → Q r H'
theorem scCo : FnScope ["self", "place", "start", "cancel", "key"] ["self", "place", "start", "cancel"] (defScope fscourse) := ⟨rfl, rfl, rfl, by decide +kernel, rfl, by decide +kernel, by decide +kernel⟩
theorem ok_course {f fFi F0 : Addr} {fd fdFi : FuncData} (F : Fun K "course" "Foresight.course" fscourse f fd) (T : ClsF K F0) (GFi : FnOk P w K mg base CX0 5 fFi fdFi ["self", "node", "start", "cancel"] (spFind K)) (hFi : Meth K F0 "find_course" fFi) (bFi : Binds K fdFi ["self", "node", "start", "cancel"] []) :
    FnOk P w K mg base CX0 6 f fd ["self", "place", "start", "cancel"] (spCourse K w F0 (CoAt K)) := by
  have cl := T.cl
  refine F.ok scCo (fun vs H Q E h => ?_) (fun cdv A outer s H vs Q E hr h => ?_)
  · obtain ⟨x, pl, kd, sv, cv, d, g, v, c, f, s, o, n, rfl, _⟩ := h
    rfl
  · obtain ⟨x, pl, kd, sv, cv, d, g, v, c, f, s, o, n, rfl, D, hn, hp, hs, ho, hna, q⟩ := h
    have nd := scCo.nd
    refine ⟨_, (pss_cons (ps_set (i := 4) nd rfl (Or.inl rfl) (pe_tup (pa_cons (pv 1) (pa_cons (pv 2) (pa_cons (pv 3) pa_nil)))))
        (C8.pss_cut (ps_if (pt_cmpR (op_ndnotin hr.units) (pv 4) (pe_fld (pv 0) rfl) rfl) (pss_one (ps_asg (pe_meth (pv 0) cl hFi GFi (hr.mono (by decide)) bFi .nil pass0 (pa_cons (pe_ix ix_tup (pe_fld (pv 0) rfl) (pv 1) (fun _ _ => rfl)) (pa_cons (pv 2) (pa_cons (pv 3) pa_nil)))) (pg_sub (pe_fld (pv 0) rfl) (pv 4) (set_nd hr.units)))) pss_nil)
        (pss_one (ps_ret (pe_ndget hr.units (pe_fld (pv 0) rfl) (pv 4) (fun _ _ => rfl)))))), ?_⟩
    refine ⟨_, rfl, _, rfl, _, rfl, (by show 3 ≤ sizeLine; decide), fun ky nk => ?_⟩
    have S0 := same_new (o := .tup [.int 0, sv, cv]) nk
    have D0 := D.same S0
    have hs0 := hs.same S0
    have ho0 := ho.same S0
    have hp0 := hp.tp (same_tpk S0)
    have kat : KyAt K (upd H ky (.tup [.int 0, sv, cv])) (.ref ky) (kyC s o) := .tup (SqT.of upd_same) (.cons (.int 0) (.cons (kyI_at hs0) (.cons (kyI_at ho0) .nil)))
    generalize upd H ky (.tup [.int 0, sv, cv]) = H1 at *
    have ik : IsKy K H1 (.ref ky) (kyC s o) := ⟨ky, rfl, kat, kyC_deep s o⟩
    obtain ⟨⟨dx, hx⟩, kvs, kn, kl, ki⟩ := id D0
    have xk : x ≠ kd := by
      obtain ⟨xs, h1, _⟩ := kn
      exact ne_of hx h1 (by intro z; cases z)
    refine ⟨fun σ H' => σ = [some (.ref x), some (.int 0), some sv, some cv, some (.ref ky)] ∧ FrD kd H1 H' ∧ ∃ kvs', ND K w H' kd kvs' ∧ kvs'.length ≤ n + 1 ∧ (∀ k u, (k, u) ∈ kvs' → ∃ s o, k = kyC s o ∧ CoAt K H' u (jobEn d g v c f s o)) ∧ (valV kvs' (kyC s o)).isSome = true, ?_, ?_⟩
    · refine ⟨_, rfl, _, rfl, x, F0, dx, _, _, rfl, hx, cl, T.nK, fsF_known pl kd, kd, kvs, kyC s o, rfl, kn, ik, _, rfl, ?_⟩
      cases hv : valV kvs (kyC s o) with
      | some u => exact ⟨rfl, FrD.refl, kvs, kn, by omega, ki, by rw [hv]; rfl⟩
      | none =>
        obtain ⟨nv, sP, hnv⟩ := hp0
        refine ⟨_, rfl, x, dx, _, rfl, hx, fsF_no pl kd (by decide +kernel) (by decide +kernel), _, rfl, x, F0, dx, _, _, rfl, hx, cl, T.nP, fsF_plan pl kd, _, rfl, pl, _, _, _, rfl, rfl, sP, atI_0, _, rfl, _, rfl, ?_⟩
        refine ⟨x, nv, sv, cv, d, g, v, c, f, s, o, rfl, hnv, hs0, ho0, hna, fun r H2 S2 co => ?_⟩
        have kn2 : ND K w H2 kd kvs := by
          obtain ⟨xs, h1, _⟩ := id kn
          exact kn.tp (same_tpk S2) (h1.trans (S2 _ _ h1).symm)
        refine ⟨_, rfl, x, F0, dx, _, _, rfl, S2 _ _ hx, cl, T.nK, fsF_known pl kd, _, rfl, kd, kvs, kyC s o, rfl, kn2, ⟨ky, rfl, kat.tp (same_tpk S2), kyC_deep s o⟩, Nat.lt_of_le_of_lt (show kvs.length ≤ 100 by omega) (by decide), fun H3 fr D3 => ?_⟩
        have F2 : FrD kd H2 H3 := fun b o hb e => (fr b hb).trans e
        have F1 : FrD kd H1 H3 := (FrD.of S2).trans F2
        refine ⟨rfl, F1, _, D3, ?_, ?_, ?_⟩
        · have := length_putK kvs (kyC s o) r
          omega
        · rw [putK_new _ hv]
          intro k u m
          rcases List.mem_append.mp m with m | m
          · obtain ⟨s', o', e, h⟩ := ki k u m
            exact ⟨s', o', e, h.fr kn F1⟩
          · have e := List.mem_singleton.mp m
            cases e
            exact ⟨s, o, rfl, co.fr kn2 F2⟩
        · rw [valV_put, if_pos rfl]
          rfl
    · rintro σ H3 ⟨rfl, F1, kvs', kn3, kl3, ki3, some3⟩
      obtain ⟨u, hu⟩ := Option.isSome_iff_exists.mp some3
      obtain ⟨s', o', e, co⟩ := ki3 _ _ (valV_mem hu)
      obtain ⟨rfl, rfl⟩ := kyC_inj e
      have hx3 := F1 x _ xk hx
      refine ⟨_, rfl, x, F0, dx, _, _, rfl, hx3, cl, T.nK, fsF_known pl kd, _, rfl, kd, kvs', kyC s o, u, rfl, kn3, ⟨ky, rfl, kat.tp (FrD.tp kn F1), kyC_deep s o⟩, hu, ?_⟩
      exact q u H3 ((FrD.of S0).trans F1) ⟨⟨dx, hx3⟩, kvs', kn3, kl3, ki3⟩ co
end
end LB

set_option maxRecDepth 100000
set_option maxHeartbeats 8000000
namespace LB
open PySem PySem.Spec PyProof.Rows L2
section
variable {P : Program} {w : World} {K : PySem.W.Frag} {mg : Str → Option Value} {base : Heap} {C fI cc cda : Addr}
/-- the same, told of the plan as a whole -/
def spWhole' (K : PySem.W.Frag) (w : World) (C : Addr) (Res : Hp → V → En → Prop) : Sp := fun vs H Q _ => ∃ (x pl kd : Addr) (sv cv : V) (d : Int) (g : Bool) (v c : Int) (f : Option Int) (s : Ins) (o : Option Ins) (n : Nat), vs = [.ref x, sv, cv] ∧ Sees K w C (jobEn d g v c f) n H x pl kd ∧ n ≤ 100 ∧
  OneP K H pl d g v c f ∧ At K H sv (some s) ∧ At K H cv o ∧ notAfter (some s) o = true ∧
  ∀ r H', FrD kd H H' → Sees K w C (jobEn d g v c f) (n + 1) H' x pl kd → Res H' r (jobEn d g v c f s o) → Q r H'
theorem scEn : FnScope ["self", "place", "start", "cancel"] ["self", "place", "start", "cancel"] (defScope fsend) := ⟨rfl, rfl, rfl, by decide +kernel, rfl, by decide +kernel, by decide +kernel⟩
theorem ok_end {f fCo F0 : Addr} {fd fdCo : FuncData} (F : Fun K "end" "Foresight.end" fsend f fd) (T : ClsF K F0) (GCo : FnOk P w K mg base CX0 6 fCo fdCo ["self", "place", "start", "cancel"] (spCourse K w F0 (CoAt K))) (hCo : Meth K F0 "course" fCo) (bCo : Binds K fdCo ["self", "place", "start", "cancel"] []) :
    FnOk P w K mg base CX0 7 f fd ["self", "place", "start", "cancel"] (spCourse K w F0 (EnAt K)) := by
  have cl := T.cl
  refine F.ok scEn (fun vs H Q E h => ?_) (fun cdv A outer s H vs Q E hr h => ?_)
  · obtain ⟨x, pl, kd, sv, cv, d, g, v, c, f, s, o, n, rfl, _⟩ := h
    rfl
  · obtain ⟨x, pl, kd, sv, cv, d, g, v, c, f, s, o, n, rfl, D, hn, hp, hs, ho, hna, q⟩ := h
    have nd := scEn.nd
    obtain ⟨⟨dx, hx⟩, _⟩ := id D
    refine ⟨_, (pss_one (ps_ret (pe_ix ix_tup (pe_meth (pv 0) cl hCo GCo (hr.mono (by decide)) bCo .nil pass0 (pa_cons (pv 1) (pa_cons (pv 2) (pa_cons (pv 3) pa_nil)))) pe_int (fun _ _ => rfl)))), ?_⟩
    refine ⟨_, rfl, x, dx, _, rfl, hx, fsF_no pl kd (by decide +kernel) (by decide +kernel), _, rfl, _, rfl, _, rfl, x, pl, kd, sv, cv, d, g, v, c, f, s, o, n, rfl, D, hn, hp, hs, ho, hna, fun r H1 F1 D1 co => ?_⟩
    obtain ⟨a, ve, l, rfl, sa, en, _⟩ := co
    exact ⟨a, _, _, _, rfl, rfl, sa, atI_0, q _ _ F1 D1 en⟩
theorem scEw : FnScope ["self", "start", "cancel"] ["self", "start", "cancel"] (defScope fsend_whole) := ⟨rfl, rfl, rfl, by decide +kernel, rfl, by decide +kernel, by decide +kernel⟩
theorem ok_endw {f fEn F0 : Addr} {fd fdEn : FuncData} (F : Fun K "end_whole" "Foresight.end_whole" fsend_whole f fd) (M : Names mg) (T : ClsF K F0) (GEn : FnOk P w K mg base CX0 7 fEn fdEn ["self", "place", "start", "cancel"] (spCourse K w F0 (EnAt K))) (hEn : Meth K F0 "end" fEn) (bEn : Binds K fdEn ["self", "place", "start", "cancel"] []) :
    FnOk P w K mg base CX0 8 f fd ["self", "start", "cancel"] (spWhole' K w F0 (EnAt K)) := by
  have cl := T.cl
  refine F.ok scEw (fun vs H Q E h => ?_) (fun cdv A outer s H vs Q E hr h => ?_)
  · obtain ⟨x, pl, kd, sv, cv, d, g, v, c, f, s, o, n, rfl, _⟩ := h
    rfl
  · obtain ⟨x, pl, kd, sv, cv, d, g, v, c, f, s, o, n, rfl, D, hn, hp, hs, ho, hna, q⟩ := h
    have nd := scEw.nd
    obtain ⟨⟨dx, hx⟩, _⟩ := id D
    obtain ⟨nv, sP, hnv⟩ := id hp
    refine ⟨_, (pss_one (ps_ret (pe_meth (pv 0) cl hEn GEn (hr.mono (by decide)) bEn .nil pass0 (pa_cons (pe_op op_sub (pe_callB call_len_seq (by rfl) M.len PySem.boot_len (pa_cons (pe_fld (pv 0) rfl) pa_nil)) pe_int) (pa_cons (pv 1) (pa_cons (pv 2) pa_nil)))))), ?_⟩
    refine ⟨_, rfl, x, dx, _, rfl, hx, fsF_no pl kd (by decide +kernel) (by decide +kernel), _, rfl, x, F0, dx, _, _, rfl, hx, cl, T.nP, fsF_plan pl kd, pl, _, rfl, .inr sP, _, _, rfl, rfl, _, rfl, _, rfl, ?_⟩
    exact ⟨x, pl, kd, sv, cv, d, g, v, c, f, s, o, n, rfl, D, hn, hp, hs, ho, hna, q⟩
/-- the one row of the trace, behind the index of its node -/
def RowAt (K : PySem.W.Frag) (H : Hp) (v : V) (pp sv : V) (e : En) : Prop := ∃ l r en va vr, v = .ref l ∧ H l = some (.lst [.ref r]) ∧ SqT K H r [.int 0, .ref en] ∧ SqT K H en [pp, sv, va, .str e.2.1, .ref vr] ∧ At K H va (some e.1) ∧ SqT K H vr (e.2.2.map V.int)
def spRows (K : PySem.W.Frag) (w : World) (C : Addr) (pre : List V) : Sp := fun vs H Q _ => ∃ (x pl kd : Addr) (pp sv cv : V) (d : Int) (g : Bool) (v c : Int) (f : Option Int) (s : Ins) (o : Option Ins) (n : Nat), vs = .ref x :: (pre ++ [pp, sv, cv]) ∧ Sees K w C (jobEn d g v c f) n H x pl kd ∧ n ≤ 100 ∧
  OneP K H pl d g v c f ∧ At K H sv (some s) ∧ At K H cv o ∧ notAfter (some s) o = true ∧
  ∀ r H', FrD kd H H' → Sees K w C (jobEn d g v c f) (n + 1) H' x pl kd → RowAt K H' r pp sv (jobEn d g v c f s o) → Q r H'
theorem scRo : FnScope ["self", "place", "path", "start", "cancel", "end", "runs", "found", "scope", "part", "below", "begun", "until", "child"] ["self", "place", "path", "start", "cancel"] (defScope fsrows) := ⟨rfl, rfl, rfl, by decide +kernel, rfl, by decide +kernel, by decide +kernel⟩
theorem ok_rows {f fCo F0 : Addr} {fd fdCo : FuncData} (F : Fun K "rows" "Foresight.rows" fsrows f fd) (T : ClsF K F0) (GCo : FnOk P w K mg base CX0 6 fCo fdCo ["self", "place", "start", "cancel"] (spCourse K w F0 (CoAt K))) (hCo : Meth K F0 "course" fCo) (bCo : Binds K fdCo ["self", "place", "start", "cancel"] []) :
    FnOk P w K mg base CX0 7 f fd ["self", "place", "path", "start", "cancel"] (spRows K w F0 [.int 0]) := by
  have cl := T.cl
  refine F.ok scRo (fun vs H Q E h => ?_) (fun cdv A outer s H vs Q E hr h => ?_)
  · obtain ⟨x, pl, kd, pp, sv, cv, d, g, v, c, f, s, o, n, rfl, _⟩ := h
    rfl
  · obtain ⟨x, pl, kd, pp, sv, cv, d, g, v, c, f, s, o, n, rfl, D, hn, hp, hs, ho, hna, q⟩ := h
    have nd := scRo.nd
    obtain ⟨⟨dx, hx⟩, _⟩ := id D
    refine ⟨_, pss_cons (ps_asg (pe_meth (pv 0) cl hCo GCo (hr.mono (by decide)) bCo .nil pass0 (pa_cons (pv 1) (pa_cons (pv 3) (pa_cons (pv 4) pa_nil)))) (pg_tup (by rfl) (pgs_cons (pg_name (i := 5) nd rfl (Or.inl rfl)) (pgs_cons (pg_name (i := 6) nd rfl (Or.inl rfl)) pgs_nil)))) (pss_cons (ps_set (i := 7) nd rfl (Or.inl rfl) (pe_lst (pa_cons (pe_tup (pa_cons (pv 1) (pa_cons (pe_op op_catT (pe_tup (pa_cons (pv 2) (pa_cons (pv 3) pa_nil))) (pv 5)) pa_nil))) pa_nil)))
      (pss_cons (ps_for PassesOwn.never rfl (pi_list (pv 6)) (pg_tup (by rfl) (pgs_cons (pg_name (i := 8) nd rfl (Or.inl rfl)) (pgs_cons (pg_name (i := 9) nd rfl (Or.inl rfl)) (pgs_cons (pg_name (i := 10) nd rfl (Or.inl rfl)) (pgs_cons (pg_name (i := 11) nd rfl (Or.inl rfl)) (pgs_cons (pg_name (i := 12) nd rfl (Or.inl rfl)) pgs_nil)))))) pss_no) (pss_one (ps_ret (pv 7))))), ?_⟩
    have two : (2 : Nat) ≤ sizeLine := by decide
    refine ⟨_, rfl, x, dx, _, rfl, hx, fsF_no pl kd (by decide +kernel) (by decide +kernel), _, rfl, _, rfl, _, rfl, x, pl, kd, sv, cv, d, g, v, c, f, s, o, n, rfl, D, hn, hp, hs, ho, hna, fun r H1 F1 D1 co => ?_⟩
    obtain ⟨a, ve, l, rfl, sa, ⟨ea, va, vr, rfl, se, ae, re⟩, hl⟩ := co
    refine ⟨a, _, rfl, sa, rfl, _, _, rfl, _, _, rfl, rfl, ?_⟩
    refine ⟨_, rfl, _, rfl, _, rfl, two, fun t nt => ⟨_, rfl, ?_⟩⟩
    have S1 := same_new (o := .tup [pp, sv]) nt
    refine ⟨t, ea, _, _, rfl, rfl, SqT.of upd_same, sqT_same S1 se, by simp, by show 5 ≤ sizeLine; decide, fun z => (by cases z), fun _ u nu => ⟨two, fun rr nr => ⟨(by show 1 ≤ sizeLine; decide), fun ff nf => ?_⟩⟩⟩
    have S2 := same_new (o := .tup ([pp, sv] ++ [va, .str (jobEn d g v c f s o).2.1, .ref vr])) nu
    have S3 := same_new (o := .tup [.int 0, .ref u]) nr
    have S4 := same_new (o := .lst [.ref rr]) nf
    have S := ((S1.trans S2).trans S3).trans S4
    have hu : SqT K (upd (upd (upd (upd H1 t (.tup [pp, sv])) u (.tup ([pp, sv] ++ [va, .str (jobEn d g v c f s o).2.1, .ref vr]))) rr (.tup [.int 0, .ref u])) ff (.lst [.ref rr])) u [pp, sv, va, .str (jobEn d g v c f s o).2.1, .ref vr] := sqT_same S4 (sqT_same S3 (SqT.of upd_same))
    have hr2 : SqT K (upd (upd (upd (upd H1 t (.tup [pp, sv])) u (.tup ([pp, sv] ++ [va, .str (jobEn d g v c f s o).2.1, .ref vr]))) rr (.tup [.int 0, .ref u])) ff (.lst [.ref rr])) rr [.int 0, .ref u] := sqT_same S4 (SqT.of upd_same)
    refine ⟨_, rfl, l, rfl, ⟨_, SqL.of (S _ _ hl)⟩, for_list (K := K) (a := l) (xs := []) (fun _ σ H' => σ = [some (.ref x), some (.int 0), some pp, some sv, some cv, some (.ref ea), some (.ref l), some (.ref ff), none, none, none, none, none, none] ∧ H' = upd (upd (upd (upd H1 t (.tup [pp, sv])) u (.tup ([pp, sv] ++ [va, .str (jobEn d g v c f s o).2.1, .ref vr]))) rr (.tup [.int 0, .ref u])) ff (.lst [.ref rr])) ⟨rfl, rfl⟩ (fun _ _ _ _ h => by rw [h.2]; exact SqL.of (S _ _ hl)) (fun i y σ H' hy => by simp at hy) ?_⟩
    rintro σ H' ⟨rfl, rfl⟩
    refine ⟨_, rfl, q _ _ (F1.trans (FrD.of S)) (D1.same S) ⟨ff, rr, u, va, vr, rfl, upd_same, hr2, hu, ae.same S, sqT_same S re⟩⟩
theorem scRw : FnScope ["self", "path", "start", "cancel"] ["self", "path", "start", "cancel"] (defScope fsrows_whole) := ⟨rfl, rfl, rfl, by decide +kernel, rfl, by decide +kernel, by decide +kernel⟩
theorem ok_rowsw {f fRo F0 : Addr} {fd fdRo : FuncData} (F : Fun K "rows_whole" "Foresight.rows_whole" fsrows_whole f fd) (M : Names mg) (T : ClsF K F0) (GRo : FnOk P w K mg base CX0 7 fRo fdRo ["self", "place", "path", "start", "cancel"] (spRows K w F0 [.int 0])) (hRo : Meth K F0 "rows" fRo) (bRo : Binds K fdRo ["self", "place", "path", "start", "cancel"] []) :
    FnOk P w K mg base CX0 8 f fd ["self", "path", "start", "cancel"] (spRows K w F0 []) := by
  have cl := T.cl
  refine F.ok scRw (fun vs H Q E h => ?_) (fun cdv A outer s H vs Q E hr h => ?_)
  · obtain ⟨x, pl, kd, pp, sv, cv, d, g, v, c, f, s, o, n, rfl, _⟩ := h
    rfl
  · obtain ⟨x, pl, kd, pp, sv, cv, d, g, v, c, f, s, o, n, rfl, D, hn, hp, hs, ho, hna, q⟩ := h
    have nd := scRw.nd
    obtain ⟨⟨dx, hx⟩, _⟩ := id D
    obtain ⟨nv, sP, hnv⟩ := id hp
    refine ⟨_, (pss_one (ps_ret (pe_meth (pv 0) cl hRo GRo (hr.mono (by decide)) bRo .nil pass0 (pa_cons (pe_op op_sub (pe_callB call_len_seq (by rfl) M.len PySem.boot_len (pa_cons (pe_fld (pv 0) rfl) pa_nil)) pe_int) (pa_cons (pv 1) (pa_cons (pv 2) (pa_cons (pv 3) pa_nil))))))), ?_⟩
    refine ⟨_, rfl, x, dx, _, rfl, hx, fsF_no pl kd (by decide +kernel) (by decide +kernel), _, rfl, x, F0, dx, _, _, rfl, hx, cl, T.nP, fsF_plan pl kd, pl, _, rfl, .inr sP, _, _, rfl, rfl, _, rfl, _, rfl, _, rfl, ?_⟩
    exact ⟨x, pl, kd, pp, sv, cv, d, g, v, c, f, s, o, n, rfl, D, hn, hp, hs, ho, hna, q⟩
/-- a prediction with a trace of one entry -/
def PrAt (K : PySem.W.Frag) (H : Hp) (v : V) (pp sv : V) (e : En) : Prop := ∃ a va vr tr en vb vq, v = .ref a ∧ SqT K H a [va, .str e.2.1, .ref vr, .ref tr] ∧ At K H va (some e.1) ∧ SqT K H vr (e.2.2.map V.int) ∧ SqT K H tr [.ref en] ∧ SqT K H en [pp, sv, vb, .str e.2.1, .ref vq] ∧ At K H vb (some e.1) ∧ SqT K H vq (e.2.2.map V.int)
theorem PrAt.same {H H' : Hp} {v pp sv : V} {e : En} (S : Same H H') (h : PrAt K H v pp sv e) : PrAt K H' v pp sv e := by
  obtain ⟨a, va, vr, tr, en, vb, vq, h1, h2, h3, h4, h5, h6, h7, h8⟩ := h
  exact ⟨a, va, vr, tr, en, vb, vq, h1, sqT_same S h2, h3.same S, sqT_same S h4, sqT_same S h5, sqT_same S h6, h7.same S, sqT_same S h8⟩
def spPred (K : PySem.W.Frag) (w : World) (C : Addr) : Sp := fun vs H Q _ => ∃ (x pl kd : Addr) (pp sv cv : V) (d : Int) (g : Bool) (v c : Int) (f : Option Int) (s : Ins) (o : Option Ins), vs = [.ref x, pp, sv, cv] ∧ Sees K w C (jobEn d g v c f) 0 H x pl kd ∧
  OneP K H pl d g v c f ∧ At K H sv (some s) ∧ At K H cv o ∧ notAfter (some s) o = true ∧
  ∀ r H', FrD kd H H' → PrAt K H' r pp sv (jobEn d g v c f s o) → Q r H'
theorem scPw : FnScope ["self", "path", "start", "cancel", "trace", "_", "entry"] ["self", "path", "start", "cancel"] (defScope fspredict_whole) := ⟨rfl, rfl, rfl, by decide +kernel, rfl, by decide +kernel, by decide +kernel⟩
theorem ok_predw {f fRw fEw F0 : Addr} {fd fdRw fdEw : FuncData} (F : Fun K "predict_whole" "Foresight.predict_whole" fspredict_whole f fd) (M : NamesP mg) (T : ClsF K F0) (GRw : FnOk P w K mg base CX0 8 fRw fdRw ["self", "path", "start", "cancel"] (spRows K w F0 [])) (hRw : Meth K F0 "rows_whole" fRw) (bRw : Binds K fdRw ["self", "path", "start", "cancel"] [])
    (GEw : FnOk P w K mg base CX0 8 fEw fdEw ["self", "start", "cancel"] (spWhole' K w F0 (EnAt K))) (hEw : Meth K F0 "end_whole" fEw) (bEw : Binds K fdEw ["self", "start", "cancel"] []) :
    FnOk P w K mg base CX0 9 f fd ["self", "path", "start", "cancel"] (spPred K w F0) := by
  have cl := T.cl
  refine F.ok scPw (fun vs H Q E h => ?_) (fun cdv A outer s H vs Q E hr h => ?_)
  · obtain ⟨x, pl, kd, pp, sv, cv, d, g, v, c, f, s, o, rfl, _⟩ := h
    rfl
  · obtain ⟨x, pl, kd, pp, sv, cv, d, g, v, c, f, s, o, rfl, D, hp, hs, ho, hna, q⟩ := h
    have nd := scPw.nd
    obtain ⟨⟨dx, hx⟩, _⟩ := id D
    have no : ∀ m : Str, ¬ m = "known" → ¬ m = "plan" → (fsF pl kd).lookup m = none := fun m => fsF_no pl kd
    refine ⟨_, (pss_cons (ps_set (i := 4) nd rfl (Or.inl rfl) (pe_callTy call_tuple_of (by rfl) M.tuple (by decide +kernel) (pa_cons (pe_lc (own := [("_", 5), ("entry", 6)]) (g := (gTup K 2 (gCons (gName 5) (gCons (gName 6) gNil)))) rfl nd (pi_list (pe_meth (pv 0) cl hRw GRw (hr.mono (by decide)) bRw .nil pass0 (pa_cons (pv 1) (pa_cons (pv 2) (pa_cons (pv 3) pa_nil))))) (blkOk_by (N := ["self", "path", "start", "cancel", "trace", "_", "entry"]) (sc := (defScope fspredict_whole)) (by decide +kernel)) (fun _ _ _ _ _ => (pg_tupK (K := K) rfl rfl (pgs_cons (pg_name (i := 5) nd rfl (Or.inl rfl)) (pgs_cons (pg_name (i := 6) nd rfl (Or.inl rfl)) pgs_nil)))) (fun _ _ _ _ _ => pts_nil) (fun _ _ _ _ _ => (pv 6))) pa_nil)))
        (pss_one (ps_ret (pe_op op_catT (pe_meth (pv 0) cl hEw GEw (hr.mono (by decide)) bEw .nil pass0 (pa_cons (pv 2) (pa_cons (pv 3) pa_nil))) (pe_tup (pa_cons (pv 4) pa_nil)))))), ?_⟩
    refine ⟨_, rfl, x, dx, _, rfl, hx, no _ (by decide +kernel) (by decide +kernel), _, rfl, _, rfl, _, rfl, x, pl, kd, pp, sv, cv, d, g, v, c, f, s, o, 0, rfl, D, by decide, hp, hs, ho, hna, fun r H1 F1 D1 row => ?_⟩
    obtain ⟨l, rr, en, va, vr, rfl, hl, sr, se, ae, re⟩ := row
    refine ⟨l, rfl, ⟨_, SqL.of hl⟩, fun Dl nD => ?_⟩
    refine lc_list (K := K) (a := l) (xs := [.ref rr]) (fun j H' => Same H1 H' ∧ H' Dl = some (.lst (([.ref en] : List V).take j))) ⟨same_new nD, upd_same⟩ (fun j H' _ h => SqL.of (h.1 _ _ hl)) ?_ ?_
    · rintro j y H3 hy ⟨S3, hD⟩
      have j0 : j = 0 := by
        by_cases z : j = 0
        · exact z
        · rw [List.getElem?_eq_none (by simp; omega)] at hy
          cases hy
      subst j0
      cases hy
      exact ⟨rr, _, rfl, sqT_same S3 sr, rfl, _, _, rfl, _, _, rfl, rfl, rfl, _, rfl, _, hD, (by show 0 < sizeLine; decide), same_upd S3 nD, upd_same⟩
    · rintro H3 ⟨S3, hD⟩
      refine ⟨Dl, [.ref en], rfl, .inl ⟨SqL.of hD, fun tr nt => ?_⟩⟩
      have S4 := same_new (o := .tup [V.ref en]) nt
      have S := S3.trans S4
      obtain ⟨⟨dx1, hx1⟩, _⟩ := id D1
      have t1 := D.tp F1
      have D4 := D1.same S
      refine ⟨_, rfl, x, dx1, _, rfl, S _ _ hx1, no _ (by decide +kernel) (by decide +kernel), _, rfl, _, rfl, ?_⟩
      refine ⟨x, pl, kd, sv, cv, d, g, v, c, f, s, o, 1, rfl, D4, by decide, (hp.tp t1).tp (same_tpk S), (hs.tp t1).same S, (ho.tp t1).same S, hna, fun e2 H5 F5 D5 en2 => ?_⟩
      have t5 := D4.tp F5
      obtain ⟨a5, va5, vr5, rfl, s5, p5, r5⟩ := en2
      refine ⟨_, rfl, (by show 1 ≤ sizeLine; decide), fun u nu => ?_⟩
      have S6 := same_new (o := .tup [V.ref tr]) nu
      refine ⟨a5, u, _, _, rfl, rfl, sqT_same S6 s5, SqT.of upd_same, by simp, by show 4 ≤ sizeLine; decide, fun z => (by cases z), fun _ p np => ?_⟩
      have S7 := same_new (o := .tup ([va5, .str (jobEn d g v c f s o).2.1, .ref vr5] ++ [V.ref tr])) np
      have S67 := S6.trans S7
      refine q _ _ (((F1.trans (FrD.of S)).trans F5).trans (FrD.of S67)) ⟨p, va5, vr5, tr, en, va, vr, rfl, SqT.of upd_same, p5.same S67, sqT_same S67 r5, ?_, ?_, ?_, ?_⟩
      · exact sqT_same S67 (t5 _ _ (SqT.of upd_same))
      · exact sqT_same S67 (t5 _ _ (sqT_same S se))
      · exact ((ae.same S).tp t5).same S67
      · exact sqT_same S67 (t5 _ _ (sqT_same S re))
/-- end_of, predict -/
def Bad' (C : Addr) (E : XK) (H : Hp) : Prop := ∀ d : Addr, H d = none → E (.ref C) (some d) (upd H d (.xd [(("name" : Str), .str "cancel")]))
theorem fresh_sight {H H1 : Hp} {i dx kd F0 : Addr} (ni : H i = none) (ndx : H dx = none) (fr : ∀ b o, b ≠ i → upd (upd H dx (.own i)) i (.ins F0 dx []) b = some o → H1 b = some o) (nkd : upd (upd H dx (.own i)) i (.ins F0 dx []) kd = none) :
    Same H H1 ∧ ∀ H2, FrD kd H1 H2 → Same H H2 := by
  have S : Same H H1 := fun b o e => fr b o (ne_of_none e ni) (by rw [upd_ne (ne_of_none e ni), upd_ne (ne_of_none e ndx)]; exact e)
  have hk : H kd = none := by
    by_cases a : kd = i
    · rw [a]; exact ni
    · rw [upd_ne a] at nkd
      by_cases b : kd = dx
      · rw [b]; exact ndx
      · rw [upd_ne b] at nkd
        exact nkd
  exact ⟨S, fun H2 F b o e => F b o (ne_of_none e hk) (S b o e)⟩
def spEndOf (K : PySem.W.Frag) (C : Addr) : Sp := fun vs H Q E => ∃ (pl : Addr) (x y : V) (d : Int) (g : Bool) (v c : Int) (f : Option Int) (s : Ins) (o : Option Ins), vs = [.ref pl, x, y] ∧ OneP K H pl d g v c f ∧ At K H x (some s) ∧ At K H y o ∧
  (notAfter (some s) o = true → ∀ r H', Same H H' → EnAt K H' r (jobEn d g v c f s o) → Q r H') ∧ (notAfter (some s) o = false → Bad' C E H)
theorem scEo : FnScope ["plan", "start", "cancel"] ["plan", "start", "cancel"] (defScope sEndOf) := ⟨rfl, rfl, rfl, by decide +kernel, rfl, by decide +kernel, by decide +kernel⟩
theorem ok_endof {f fC fEw fIn F0 : Addr} {fd fdC fdEw fdIn : FuncData} (F : Fun K "end_of" "end_of" sEndOf f fd) (T : ClsF K F0) (GC : FnOk P w K mg base (L2.CX P w) 3 fC fdC ["start", "cancel"] (spCheckC K C)) (mC : mg "check_cancel" = some (.ref fC)) (kC : PySem.W.keepIn K (.ref fC) = true) (bC : Binds K fdC ["start", "cancel"] [])
    (GI : FnOk P w K mg base CX0 1 fIn fdIn ["self", "plan"] (spInit K w F0)) (Mk0 : Mk K F0 fIn) (mF : mg "Foresight" = some (.ref F0)) (bI : Binds K fdIn ["self", "plan"] [])
    (GEw : FnOk P w K mg base CX0 8 fEw fdEw ["self", "start", "cancel"] (spWhole' K w F0 (EnAt K))) (hEw : Meth K F0 "end_whole" fEw) (bEw : Binds K fdEw ["self", "start", "cancel"] []) :
    FnOk P w K mg base (L2.CX P w) 9 f fd ["plan", "start", "cancel"] (spEndOf K C) := by
  have cl := T.cl
  refine F.okX scEo (fun vs H Q E h => ?_) (fun cdv A outer s H vs Q E hr h => ?_)
  · obtain ⟨pl, x, y, d, g, v, c, f, s, o, rfl, _⟩ := h
    rfl
  · obtain ⟨pl, x, y, d, g, v, c, f, s, o, rfl, hp, hx, hy, q1, q2⟩ := h
    have nd := scEo.nd
    refine ⟨_, (pss_cons (ps_expr (pe_call GC (hr.mono (by decide)) rfl mC kC bC .nil (passes_call (takes_of rfl rfl rfl rfl) (fun _ _ _ _ h => h)) (pa_cons (pv 1) (pa_cons (pv 2) pa_nil))))
        (pss_one (ps_ret (pe_meth (pe_make Mk0 GI (hr.mono (by decide)) rfl mF bI .nil pass0 (pa_cons (pv 0) pa_nil)) cl hEw GEw (hr.mono (by decide)) bEw .nil pass0 (pa_cons (pv 1) (pa_cons (pv 2) pa_nil)))))), ?_⟩
    refine ⟨_, rfl, _, rfl, x, y, s, o, rfl, hx, hy, fun ha => ?_, q2⟩
    have q1 := q1 ha
    refine ⟨_, rfl, fun i dx ni ndx ne => ⟨i, dx, pl, rfl, upd_same, fun kd H1 fr nkd D => ⟨rfl, ?_⟩⟩⟩
    obtain ⟨S1, back⟩ := fresh_sight ni ndx fr nkd
    have D := D (jobEn d g v c f)
    obtain ⟨⟨dx1, hx1⟩, _⟩ := id D
    refine ⟨i, dx1, _, rfl, hx1, fsF_no pl kd (by decide +kernel) (by decide +kernel), _, rfl, _, rfl, ?_⟩
    exact ⟨i, pl, kd, x, y, d, g, v, c, f, s, o, 0, rfl, D, by decide, hp.tp (same_tpk S1), hx.same S1, hy.same S1, ha, fun r H2 F2 _ en => q1 r H2 (back _ F2) en⟩
def spPredict (K : PySem.W.Frag) (C : Addr) : Sp := fun vs H Q E => ∃ (pl : Addr) (pp x y : V) (d : Int) (g : Bool) (v c : Int) (f : Option Int) (s : Ins) (o : Option Ins), vs = [.ref pl, pp, x, y] ∧ OneP K H pl d g v c f ∧ At K H x (some s) ∧ At K H y o ∧
  (notAfter (some s) o = true → ∀ r H', Same H H' → PrAt K H' r pp x (jobEn d g v c f s o) → Q r H') ∧ (notAfter (some s) o = false → Bad' C E H)
theorem scPr : FnScope ["plan", "path", "start", "cancel"] ["plan", "path", "start", "cancel"] (defScope sPredict) := ⟨rfl, rfl, rfl, by decide +kernel, rfl, by decide +kernel, by decide +kernel⟩
theorem ok_predict {f fC fPw fIn F0 : Addr} {fd fdC fdPw fdIn : FuncData} (F : Fun K "predict" "predict" sPredict f fd) (T : ClsF K F0) (GC : FnOk P w K mg base (L2.CX P w) 3 fC fdC ["start", "cancel"] (spCheckC K C)) (mC : mg "check_cancel" = some (.ref fC)) (kC : PySem.W.keepIn K (.ref fC) = true) (bC : Binds K fdC ["start", "cancel"] [])
    (GI : FnOk P w K mg base CX0 1 fIn fdIn ["self", "plan"] (spInit K w F0)) (Mk0 : Mk K F0 fIn) (mF : mg "Foresight" = some (.ref F0)) (bI : Binds K fdIn ["self", "plan"] [])
    (GPw : FnOk P w K mg base CX0 9 fPw fdPw ["self", "path", "start", "cancel"] (spPred K w F0)) (hPw : Meth K F0 "predict_whole" fPw) (bPw : Binds K fdPw ["self", "path", "start", "cancel"] []) :
    FnOk P w K mg base (L2.CX P w) 10 f fd ["plan", "path", "start", "cancel"] (spPredict K C) := by
  have cl := T.cl
  refine F.okX scPr (fun vs H Q E h => ?_) (fun cdv A outer s H vs Q E hr h => ?_)
  · obtain ⟨pl, pp, x, y, d, g, v, c, f, s, o, rfl, _⟩ := h
    rfl
  · obtain ⟨pl, pp, x, y, d, g, v, c, f, s, o, rfl, hp, hx, hy, q1, q2⟩ := h
    have nd := scPr.nd
    refine ⟨_, (pss_cons (ps_expr (pe_call GC (hr.mono (by decide)) rfl mC kC bC .nil (passes_call (takes_of rfl rfl rfl rfl) (fun _ _ _ _ h => h)) (pa_cons (pv 2) (pa_cons (pv 3) pa_nil))))
        (pss_one (ps_ret (pe_meth (pe_make Mk0 GI (hr.mono (by decide)) rfl mF bI .nil pass0 (pa_cons (pv 0) pa_nil)) cl hPw GPw (hr.mono (by decide)) bPw .nil pass0 (pa_cons (pv 1) (pa_cons (pv 2) (pa_cons (pv 3) pa_nil))))))), ?_⟩
    refine ⟨_, rfl, _, rfl, x, y, s, o, rfl, hx, hy, fun ha => ?_, q2⟩
    have q1 := q1 ha
    refine ⟨_, rfl, fun i dx ni ndx ne => ⟨i, dx, pl, rfl, upd_same, fun kd H1 fr nkd D => ⟨rfl, ?_⟩⟩⟩
    obtain ⟨S1, back⟩ := fresh_sight ni ndx fr nkd
    have D := D (jobEn d g v c f)
    obtain ⟨⟨dx1, hx1⟩, _⟩ := id D
    refine ⟨i, dx1, _, rfl, hx1, fsF_no pl kd (by decide +kernel) (by decide +kernel), _, rfl, _, rfl, _, rfl, ?_⟩
    exact ⟨i, pl, kd, pp, x, y, d, g, v, c, f, s, o, rfl, D, hp.tp (same_tpk S1), hx.same S1, hy.same S1, ha, fun r H2 F2 en => q1 r H2 (back _ F2) en⟩
end
end LB

set_option maxRecDepth 100000
set_option maxHeartbeats 8000000
namespace LB
open PySem PySem.Spec PyProof.Rows L2
theorem ins_alike (p q : Ins) : PySem.W.alike (dIns (some p)) (dIns (some q)) = true := by
  show PySem.W.alikeAll [.int p.1, .int p.2] [.int q.1, .int q.2] = true
  simp [PySem.W.alikeAll, PySem.W.alike]
theorem ins_lt (p q : Ins) : PySem.W.dataLt (dIns (some p)) (dIns (some q)) = !leI q p := by
  obtain ⟨a, b⟩ := p
  obtain ⟨c, d⟩ := q
  refine (PySem.W.dataLt_ii a b c d).trans ?_
  show decide (a < c ∨ (a = c ∧ b < d)) = !decide (c < a ∨ (c = a ∧ d ≤ b))
  by_cases h : a < c ∨ (a = c ∧ b < d)
  · rw [decide_eq_true h, decide_eq_false (by omega)] <;> rfl
  · rw [decide_eq_false h, decide_eq_true (by omega)] <;> rfl
theorem ins_deep (p : Ins) : (dIns (some p)).depth ≤ 50 := by show (max 0 (max 0 0)) + 1 ≤ 50; decide
theorem ins_some (p : Ins) : dIns (some p) ≠ .none := fun h => by cases h
theorem ins_both (p q : Ins) : PySem.W.AlikeAll [dIns (some p), dIns (some q)] ∧ PyData.depthAll [dIns (some p), dIns (some q)] ≤ 50 := by
  refine ⟨⟨fun x hx y hy => ?_, fun x hx => ?_⟩, ?_⟩
  · rcases List.mem_cons.mp hx with rfl | hx
    · rcases List.mem_cons.mp hy with rfl | hy
      · exact ins_alike _ _
      · rw [List.mem_singleton.mp hy]; exact ins_alike _ _
    · rw [List.mem_singleton.mp hx]
      rcases List.mem_cons.mp hy with rfl | hy
      · exact ins_alike _ _
      · rw [List.mem_singleton.mp hy]; exact ins_alike _ _
  · rcases List.mem_cons.mp hx with rfl | hx
    · exact ins_some _
    · rw [List.mem_singleton.mp hx]; exact ins_some _
  · show max (max 0 (max 0 0) + 1) (max (max 0 (max 0 0) + 1) 0) ≤ 50
    decide
/-- the later one -/
def maxP (p q : Ins) : Ins := if leI q p = true then p else q
section
variable {P : Program} {w : World} {K : PySem.W.Frag} {mg : Str → Option Value} {base : Heap} {C fI cc cda : Addr}
def SmP (p : Ins) : Prop := 0 ≤ p.1 ∧ p.1 ≤ 1000000 ∧ 0 ≤ p.2 ∧ p.2 ≤ 100
def spLStart (K : PySem.W.Frag) : Sp := fun vs H Q _ => ∃ (b : Addr), vs = [.ref b] ∧ Box H b ∧ ∀ (v : V) (p : Ins) (H' : Hp), (0 ≤ p.1 ∧ p.1 ≤ 900000 ∧ 0 ≤ p.2 ∧ p.2 ≤ 4) → Box H' b → But b H H' → At K H' v (some p) → Q v H'
theorem scLSt : FnScope ["box"] ["box"] (defScope sLStart) := ⟨rfl, rfl, rfl, by decide +kernel, rfl, by decide +kernel, by decide +kernel⟩
theorem ok_lstart {f fD : Addr} {fd fdD : FuncData} (F : Fun K "_law_start" "_law_start" sLStart f fd) (M : Names mg) (FD : Fun K "_law_draw" "_law_draw" sDraw fD fdD) (mD : mg "_law_draw" = some (.ref fD)) (bD : Binds K fdD ["box", "many"] []) :
    FnOk P w K mg base CX0 2 f fd ["box"] (spLStart K) := by
  have GD : FnOk P w K mg base CX0 1 fD fdD ["box", "many"] (spDraw K) := ok_draw FD M
  have kD := FD.kp
  refine F.ok scLSt (fun vs H Q E h => ?_) (fun cdv A outer s H vs Q E hr h => ?_)
  · obtain ⟨b, rfl, _⟩ := h
    rfl
  · obtain ⟨b, rfl, B, q⟩ := h
    have nd := scLSt.nd
    have two : (2 : Nat) ≤ sizeLine := by decide
    refine ⟨_, (pss_one (ps_ret (pe_ix ix_list (pe_lst (pa_cons (pe_tup (pa_cons pe_int (pa_cons pe_int pa_nil))) (pa_cons (pe_tup (pa_cons (pe_call GD (hr.mono (by decide)) rfl mD kD bD .nil pass0 (pa_cons (pv 0) (pa_cons pe_int pa_nil))) (pa_cons (pe_call GD (hr.mono (by decide)) rfl mD kD bD .nil pass0 (pa_cons (pv 0) (pa_cons pe_int pa_nil))) pa_nil))) (pa_cons (pe_tup (pa_cons (pe_op op_mul (pe_call GD (hr.mono (by decide)) rfl mD kD bD .nil pass0 (pa_cons (pv 0) (pa_cons pe_int pa_nil))) pe_int) (pa_cons (pe_call GD (hr.mono (by decide)) rfl mD kD bD .nil pass0 (pa_cons (pv 0) (pa_cons pe_int pa_nil))) pa_nil))) pa_nil)))) (pe_call GD (hr.mono (by decide)) rfl mD kD bD .nil pass0 (pa_cons (pv 0) (pa_cons pe_int pa_nil))) (fun _ _ => rfl)))), ?_⟩
    refine ⟨two, fun t1 n1 => ?_⟩
    have B1 := B.new (o := .tup [.int 0, .int 0]) n1
    refine ⟨_, rfl, b, 9, rfl, B1, by decide, fun k1 H2 a0 a1 B2 U2 => ?_⟩
    refine ⟨_, rfl, b, 3, rfl, B2, by decide, fun k2 H3 b0 b1 B3 U3 => ⟨two, fun t2 n2 => ?_⟩⟩
    have B3' := B3.new (o := .tup [.int k1, .int k2]) n2
    refine ⟨_, rfl, b, 1000, rfl, B3', by decide, fun k3 H4 c0 c1 B4 U4 => ⟨_, _, rfl, rfl, .inr ⟨by decide, by decide⟩, ?_⟩⟩
    refine ⟨_, rfl, b, 5, rfl, B4, by decide, fun k4 H5 d0 d1 B5 U5 => ⟨two, fun t3 n3 => ⟨(by show 3 ≤ sizeLine; decide), fun l nl => ?_⟩⟩⟩
    have B5' := B5.new (o := .tup [.int (k3 * 900), .int k4]) n3
    refine ⟨_, rfl, b, 3, rfl, B5'.new nl, by decide, fun r H6 r0 r1 B6 U6 => ?_⟩
    have hl := B5'.keepL nl U6
    have u1 := (But.refl b H).new (o := .tup [.int 0, .int 0]) n1
    have u2 := ((u1.trans U2).trans U3).new (o := .tup [.int k1, .int k2]) n2
    have u3 := ((u2.trans U4).trans U5).new (o := .tup [.int (k3 * 900), .int k4]) n3
    have u4 := (u3.new (o := .lst [.ref t1, .ref t2, .ref t3]) nl).trans U6
    have e1 := B1.tup U2 (K := K) (a := t1) (SqT.of upd_same)
    have e1 := B2.tup U3 e1
    have e1 := B3'.tup U4 (sqT_same (same_new n2) e1)
    have e1 := B4.tup U5 e1
    have e1 := (B5'.new nl).tup U6 (sqT_same (same_new nl) (sqT_same (same_new n3) e1))
    have e2 := B3'.tup U4 (K := K) (a := t2) (SqT.of upd_same)
    have e2 := B4.tup U5 e2
    have e2 := (B5'.new nl).tup U6 (sqT_same (same_new nl) (sqT_same (same_new n3) e2))
    have e3 := (B5'.new nl).tup U6 (K := K) (a := t3) (sqT_same (same_new nl) (SqT.of upd_same))
    have c : r = 0 ∨ r = 1 ∨ r = 2 := by omega
    rcases c with rfl | rfl | rfl
    · exact ⟨l, _, _, _, rfl, rfl, SqL.of hl, rfl, q _ (0, 0) _ (by decide) B6 u4 ⟨t1, rfl, e1⟩⟩
    · exact ⟨l, _, _, _, rfl, rfl, SqL.of hl, rfl, q _ (k1, k2) _ (by show 0 ≤ k1 ∧ k1 ≤ 900000 ∧ 0 ≤ k2 ∧ k2 ≤ 4; omega) B6 u4 ⟨t2, rfl, e2⟩⟩
    · exact ⟨l, _, _, _, rfl, rfl, SqL.of hl, rfl, q _ (k3 * 900, k4) _ (by show 0 ≤ k3 * 900 ∧ k3 * 900 ≤ 900000 ∧ 0 ≤ k4 ∧ k4 ≤ 4; omega) B6 u4 ⟨t3, rfl, e3⟩⟩
theorem scLAf : FnScope ["instant", "ticks"] ["instant", "ticks"] (defScope sLAfter) := ⟨rfl, rfl, rfl, by decide +kernel, rfl, by decide +kernel, by decide +kernel⟩
theorem ok_lafter {f : Addr} {fd : FuncData} (F : Fun K "_law_after" "_law_after" sLAfter f fd) : FnOk P w K mg base CX0 1 f fd ["instant", "ticks"] (spLater' K) := by
  refine F.ok scLAf (fun vs H Q E h => ?_) (fun cdv A outer s H vs Q E hr h => ?_)
  · obtain ⟨x, p, k, rfl, _⟩ := h
    rfl
  · obtain ⟨x, p, k, rfl, ⟨a, rfl, ha⟩, q⟩ := h
    have nd := scLAf.nd
    refine ⟨_, (pss_cons (ps_if (pt_cmpR op_eq (pv 1) pe_int (nomark _)) (pss_one (ps_ret (pv 0))) pss_nil)
        (pss_one (ps_ret (pe_tup (pa_cons (pe_op op_add (pe_ix ix_tup (pv 0) pe_int (fun _ _ => rfl)) (pv 1)) (pa_cons pe_int pa_nil)))))), ?_⟩
    refine ⟨_, rfl, rfl, _, rfl, ite_int (fun e => ?_) (fun n => ?_)⟩
    · exact ⟨_, rfl, q _ H (Same.refl H) (by unfold laterP; rw [if_pos e]; exact ⟨a, rfl, ha⟩)⟩
    · exact ⟨_, rfl, a, _, _, _, rfl, rfl, ha, rfl, _, rfl, _, _, rfl, rfl, (by show 2 ≤ sizeLine; decide), fun t nt => q _ _ (same_new nt) (by unfold laterP; rw [if_neg n]; exact At.made)⟩
def spLLate (K : PySem.W.Frag) : Sp := fun vs H Q _ => ∃ (x y : V) (p : Ins) (o : Option Ins), vs = [x, y] ∧ At K H x (some p) ∧ At K H y o ∧ Q (.bl (!notAfter (some p) o)) H
theorem scLLa : FnScope ["instant", "cancel"] ["instant", "cancel"] (defScope sLLate) := ⟨rfl, rfl, rfl, by decide +kernel, rfl, by decide +kernel, by decide +kernel⟩
theorem ok_llate {f : Addr} {fd : FuncData} (F : Fun K "_law_late" "_law_late" sLLate f fd) : FnOk P w K mg base CX0 1 f fd ["instant", "cancel"] (spLLate K) := by
  refine F.ok scLLa (fun vs H Q E h => ?_) (fun cdv A outer s H vs Q E hr h => ?_)
  · obtain ⟨x, y, p, o, rfl, _⟩ := h
    rfl
  · obtain ⟨x, y, p, o, rfl, hx, hy, q⟩ := h
    refine ⟨_, (pss_one (ps_ret (pe_and (pe_cmpR op_notN (pv 1) pe_non (nomark _)) (pe_one (pe_cmpR (op_gtD hr.units) (pv 0) (pv 1) (nomark _)))))), ?_⟩
    refine ⟨_, rfl, rfl, _, rfl, ?_⟩
    cases o with
    | none =>
      cases hy
      exact q
    | some o =>
      have hy' := hy
      obtain ⟨b, rfl, hb⟩ := hy
      refine ⟨_, rfl, _, rfl, _, _, hx.dp, hy'.dp, ins_alike _ _, ins_some _, ins_deep _, ?_⟩
      rw [ins_lt]
      exact q
def spLEnd (K : PySem.W.Frag) : Sp := fun vs H Q _ => ∃ (nv x y : V) (d : Int) (g : Bool) (v c : Int) (f : Option Int) (s : Ins) (o : Option Ins), vs = [nv, x, y] ∧ NdAt K H nv (.job d g v c f) ∧ At K H x (some s) ∧ At K H y o ∧
  ∀ r H', Same H H' → EnAt K H' r (jobEn d g v c f s o) → Q r H'
theorem scLEn : FnScope ["job", "start", "cancel", "outcome", "ended"] ["job", "start", "cancel"] (defScope sLEnd) := ⟨rfl, rfl, rfl, by decide +kernel, rfl, by decide +kernel, by decide +kernel⟩
theorem ok_lend {f fA fL : Addr} {fd fdA fdL : FuncData} (F : Fun K "_law_end" "_law_end" sLEnd f fd) (FA : Fun K "_law_after" "_law_after" sLAfter fA fdA) (mA : mg "_law_after" = some (.ref fA)) (bA : Binds K fdA ["instant", "ticks"] [])
    (FL : Fun K "_law_late" "_law_late" sLLate fL fdL) (mL : mg "_law_late" = some (.ref fL)) (bL : Binds K fdL ["instant", "cancel"] []) : FnOk P w K mg base CX0 2 f fd ["job", "start", "cancel"] (spLEnd K) := by
  have GA : FnOk P w K mg base CX0 1 fA fdA ["instant", "ticks"] (spLater' K) := ok_lafter FA
  have GL : FnOk P w K mg base CX0 1 fL fdL ["instant", "cancel"] (spLLate K) := ok_llate FL
  have kA := FA.kp
  have kL := FL.kp
  refine F.ok scLEn (fun vs H Q E h => ?_) (fun cdv A outer s H vs Q E hr h => ?_)
  · obtain ⟨nv, x, y, d, g, v, c, f, s, o, rfl, _⟩ := h
    rfl
  · obtain ⟨nv, x, y, d, g, v, c, f, s, o, rfl, ⟨a, rfl, hn⟩, hx, hy, q⟩ := h
    have nd := scLEn.nd
    have one : (1 : Nat) ≤ sizeLine := by decide
    have two : (2 : Nat) ≤ sizeLine := by decide
    have three : (3 : Nat) ≤ sizeLine := by decide
    refine ⟨_, (pss_cons (ps_if (pt_not (pt_val (pe_call GL (hr.mono (by decide)) rfl mL kL bL .nil pass0 (pa_cons (pe_call GA (hr.mono (by decide)) rfl mA kA bA .nil pass0 (pa_cons (pv 1) (pa_cons (pe_ix ix_tup (pv 0) pe_int (fun _ _ => rfl)) pa_nil))) (pa_cons (pv 2) pa_nil))))) (pss_cons (ps_set (i := 3) nd rfl (Or.inl rfl) pe_str)
        (pss_cons (ps_if (pt_cmpR op_eq (pe_ix ix_tup (pv 0) pe_int (fun _ _ => rfl)) pe_str (nomark _)) (pss_one (ps_set (i := 3) nd rfl (Or.inl rfl) pe_str)) pss_nil)
        (pss_one (ps_ret (pe_tup (pa_cons (pe_call GA (hr.mono (by decide)) rfl mA kA bA .nil pass0 (pa_cons (pv 1) (pa_cons (pe_ix ix_tup (pv 0) pe_int (fun _ _ => rfl)) pa_nil))) (pa_cons (pv 3) (pa_cons (pe_tup (pa_cons (pe_ix ix_tup (pv 0) pe_int (fun _ _ => rfl)) pa_nil)) pa_nil)))))))) pss_nil)
        (pss_cons (ps_set (i := 4) nd rfl (Or.inl rfl) (pe_call GA (hr.mono (by decide)) rfl mA kA bA .nil pass0 (pa_cons (pe_tup (pa_cons (pe_ix ix_tup (pv 2) pe_int (fun _ _ => rfl)) (pa_cons (pe_op op_add (pe_ix ix_tup (pv 2) pe_int (fun _ _ => rfl)) pe_int) pa_nil))) (pa_cons (pe_ix ix_tup (pv 0) pe_int (fun _ _ => rfl)) pa_nil))))
        (pss_cons (ps_if (pt_cmpR op_isN (pe_ix ix_tup (pv 0) pe_int (fun _ _ => rfl)) pe_non (nomark _)) (pss_one (ps_ret (pe_tup (pa_cons (pv 4) (pa_cons pe_str (pa_cons (pe_tup pa_nil) pa_nil)))))) pss_nil)
        (pss_one (ps_ret (pe_tup (pa_cons (pv 4) (pa_cons pe_str (pa_cons (pe_tup (pa_cons (pe_ix ix_tup (pv 0) pe_int (fun _ _ => rfl)) pa_nil)) pa_nil))))))))), ?_⟩
    have own : notAfter (some (laterP s d)) o = true → jobEn d g v c f s o = (laterP s d, doneW g, [v]) := fun z => by
      unfold jobEn
      cases o with
      | none => rfl
      | some q => exact if_pos z
    refine ⟨_, rfl, _, rfl, a, _, _, _, rfl, rfl, hn, rfl, x, s, d, rfl, hx, fun r1 H1 S1 ar1 => ⟨_, rfl, _, _, laterP s d, o, rfl, ar1, hy.same S1, _, rfl, ?_⟩⟩
    cases hna : notAfter (some (laterP s d)) o with
    | true =>
      refine iteT ?_
      have fin : ∀ (H2 : Hp) {r2 : V}, Same H H2 → At K H2 r2 (some (laterP s d)) → ∀ t u, H2 t = none → (upd H2 t (.tup [.int v])) u = none → Q (.ref u) (upd (upd H2 t (.tup [.int v])) u (.tup [r2, .str (doneW g), .ref t])) := fun H2 r2 S2 ar2 t u nt nu => by
        have S3 := (same_new (o := .tup [.int v]) nt)
        have S4 := (same_new (o := .tup [r2, .str (doneW g), .ref t]) nu)
        refine q _ _ ((S2.trans S3).trans S4) ?_
        rw [own hna]
        exact ⟨u, r2, t, rfl, SqT.of upd_same, (ar2.same S3).same S4, sqT_same S4 (SqT.of upd_same)⟩
      clear q own
      refine ⟨_, rfl, a, _, _, _, rfl, rfl, sqT_same S1 hn, rfl, rfl, _, rfl, ?_⟩
      cases g with
      | true =>
        refine iteF ?_
        exact ⟨_, rfl, _, rfl, a, _, _, _, rfl, rfl, sqT_same S1 hn, rfl, x, s, d, rfl, hx.same S1, fun r2 H2 S2 ar2 => ⟨_, rfl, _, rfl, a, _, _, _, rfl, rfl, sqT_same S2 (sqT_same S1 hn), rfl, one, fun t nt => ⟨three, fun u nu => fin H2 (S1.trans S2) ar2 t u nt nu⟩⟩⟩
      | false =>
        refine iteT ?_
        exact ⟨_, rfl, _, rfl, a, _, _, _, rfl, rfl, sqT_same S1 hn, rfl, x, s, d, rfl, hx.same S1, fun r2 H2 S2 ar2 => ⟨_, rfl, _, rfl, a, _, _, _, rfl, rfl, sqT_same S2 (sqT_same S1 hn), rfl, one, fun t nt => ⟨three, fun u nu => fin H2 (S1.trans S2) ar2 t u nt nu⟩⟩⟩
    | false =>
      refine iteF ?_
      match o, hy, hna, q with
      | some p, hy, hna, q =>
        have ej : jobEn d g v c f s (some p) = cutEn c f p := if_neg (show ¬ leI (laterP s d) p = true from fun y => Bool.noConfusion (y.symm.trans hna))
        rw [ej] at q
        have hy1 := hy.same S1
        obtain ⟨b, rfl, sb⟩ := hy1
        refine ⟨_, rfl, b, _, _, _, rfl, rfl, sb, rfl, _, rfl, b, _, _, _, rfl, rfl, sb, rfl, _, _, rfl, rfl, two, fun t nt => ?_⟩
        have S2 := same_new (o := .tup [.int p.1, .int (p.2 + 1)]) nt
        refine ⟨_, rfl, a, _, _, _, rfl, rfl, sqT_same S2 (sqT_same S1 hn), rfl, .ref t, (p.1, p.2 + 1), c, rfl, At.made, fun r3 H3 S3 ar3 => ?_⟩
        have Sx := (S1.trans S2).trans S3
        refine ⟨_, rfl, a, _, _, _, rfl, rfl, sqT_same Sx hn, rfl, rfl, _, rfl, ?_⟩
        cases f with
        | none =>
          refine iteT ⟨_, rfl, (by show 0 ≤ sizeLine; decide), fun t2 n2 => ⟨three, fun u nu => ?_⟩⟩
          have S4 := (same_new (o := .tup []) n2)
          have S5 := (same_new (o := .tup [r3, .str "cancelled", .ref t2]) nu)
          exact q _ _ ((Sx.trans S4).trans S5) ⟨u, r3, t2, rfl, SqT.of upd_same, (ar3.same S4).same S5, sqT_same S5 (SqT.of upd_same)⟩
        | some z =>
          refine iteF ⟨_, rfl, _, rfl, a, _, _, _, rfl, rfl, sqT_same Sx hn, rfl, one, fun t2 n2 => ⟨three, fun u nu => ?_⟩⟩
          have S4 := (same_new (o := .tup [.int z]) n2)
          have S5 := (same_new (o := .tup [r3, .str "failed", .ref t2]) nu)
          exact q _ _ ((Sx.trans S4).trans S5) ⟨u, r3, t2, rfl, SqT.of upd_same, (ar3.same S4).same S5, sqT_same S5 (SqT.of upd_same)⟩
end
end LB

set_option maxRecDepth 100000
set_option maxHeartbeats 8000000
namespace LB
open PySem PySem.Spec PyProof.Rows L2
section
variable {P : Program} {w : World} {K : PySem.W.Frag} {mg : Str → Option Value} {base : Heap} {C fI cc cda : Addr}
def spLRef (K : PySem.W.Frag) : Sp := fun vs H Q _ => ∃ (k : Int) (nv x y : V) (d : Int) (g : Bool) (v c : Int) (f : Option Int) (s : Ins) (o : Option Ins), vs = [.int k, nv, x, y] ∧ NdAt K H nv (.job d g v c f) ∧ At K H x (some s) ∧ At K H y o ∧ notAfter (some s) o = false ∧ ∀ H', Same H H' → Q (.str "cancel") H'
theorem scLRe : FnScope ["which", "job", "start", "cancel", "e"] ["which", "job", "start", "cancel"] (defScope sLRefused) := ⟨rfl, rfl, rfl, by decide +kernel, rfl, by decide +kernel, by decide +kernel⟩
theorem ok_lref {f fJ fE fP : Addr} {fd fdJ fdE fdP : FuncData} (F : Fun K "_law_refused" "_law_refused" sLRefused f fd) (T : Oor K mg P "OutOfRange" C fI cc cda) (exC : PySem.W.exmOne K (.ref C) (.ref C) = some true)
    (GJ : FnOk P w K mg base (L2.CX P w) 4 fJ fdJ ["node", "start", "cancel"] (spJobEnd K C)) (mJ : mg "job_end" = some (.ref fJ)) (kJ : PySem.W.keepIn K (.ref fJ) = true) (bJ : Binds K fdJ ["node", "start", "cancel"] [])
    (GE : FnOk P w K mg base (L2.CX P w) 9 fE fdE ["plan", "start", "cancel"] (spEndOf K C)) (mE : mg "end_of" = some (.ref fE)) (kE : PySem.W.keepIn K (.ref fE) = true) (bE : Binds K fdE ["plan", "start", "cancel"] [])
    (GP : FnOk P w K mg base (L2.CX P w) 10 fP fdP ["plan", "path", "start", "cancel"] (spPredict K C)) (mP : mg "predict" = some (.ref fP)) (kP : PySem.W.keepIn K (.ref fP) = true) (bP : Binds K fdP ["plan", "path", "start", "cancel"] []) :
    FnOk P w K mg base CX0 11 f fd ["which", "job", "start", "cancel"] (spLRef K) := by
  refine F.ok scLRe (fun vs H Q E h => ?_) (fun cdv A outer s H vs Q E hr h => ?_)
  · obtain ⟨k, nv, x, y, d, g, v, c, f, s, o, rfl, _⟩ := h
    rfl
  · obtain ⟨k, nv, x, y, d, g, v, c, f, s, o, rfl, hn, hx, hy, hna, q⟩ := h
    have nd := scLRe.nd
    have one : (1 : Nat) ≤ sizeLine := by decide
    refine ⟨_, pss_cons (ps_try_as (i := 4) (Wout := fun _ _ _ _ => False) rfl rfl nd rfl rfl ⟨rfl, by decide, Or.inl T.gC⟩ takes0
        (fun W pn xe tk _ => pss_one (ps_if (pt_cmpR op_eq (pv 0) pe_int (nomark _))
          (pss_one (ps_expr (pe_callS (E := WE W) GJ (hr.mono (by decide)) rfl mJ kJ bJ (fun σ => passAt tk σ) (pa_cons (pv 1) (pa_cons (pv 2) (pa_cons (pv 3) pa_nil))))))
          (pss_one (ps_if (pt_cmpR op_eq (pv 0) pe_int (nomark _))
            (pss_one (ps_expr (pe_callS (E := WE W) GE (hr.mono (by decide)) rfl mE kE bE (fun σ => passAt tk σ) (pa_cons (pe_tup (pa_cons (pv 1) pa_nil)) (pa_cons (pv 2) (pa_cons (pv 3) pa_nil))))))
            (pss_one (ps_expr (pe_callS (E := WE W) GP (hr.mono (by decide)) rfl mP kP bP (fun σ => passAt tk σ) (pa_cons (pe_tup (pa_cons (pv 1) pa_nil)) (pa_cons (pe_tup (pa_cons pe_int pa_nil)) (pa_cons (pv 2) (pa_cons (pv 3) pa_nil)))))))))))
        (fun a oe cls d pn hz hf => pss_one (ps_ret (pe_errName T hz hf (pv 4))))) (pss_one (ps_ret pe_str)), ?_⟩
    have end_ : ∀ (H1 : Hp), Same H H1 → ∀ (a dd : Addr), H1 dd = none → ∃ (d' : Addr) (v : V), some dd = some d' ∧ upd H1 dd (.xd [(("name" : Str), V.str "cancel")]) d' = some (.xd [(("name" : Str), v)]) ∧ Q v (upd H1 dd (.xd [(("name" : Str), V.str "cancel")])) := fun H1 S1 a dd n => ⟨dd, _, rfl, upd_same, q _ (S1.trans (same_new n))⟩
    refine ⟨_, rfl, rfl, _, rfl, ite_int (fun _ => ?_) (fun _ => ?_)⟩
    · refine ⟨_, rfl, _, rfl, _, rfl, nv, x, y, d, g, v, c, f, s, o, rfl, hn, hx, hy, (fun z => absurd (z.symm.trans hna) (by decide)), fun _ dd nd => ⟨true, exC, fun _ a _ => ?_, fun y => Bool.noConfusion y⟩⟩
      exact ⟨_, rfl, rfl, rfl, end_ H (Same.refl H) a dd nd⟩
    · refine ⟨_, rfl, rfl, _, rfl, ite_int (fun _ => ?_) (fun _ => ?_)⟩
      · refine ⟨_, rfl, one, fun t nt => ⟨_, rfl, _, rfl, ?_⟩⟩
        have S1 := same_new (o := .tup [nv]) nt
        refine ⟨t, x, y, d, g, v, c, f, s, o, rfl, ⟨nv, SqT.of upd_same, hn.tp (Tp.same S1)⟩, hx.same S1, hy.same S1, (fun z => absurd (z.symm.trans hna) (by decide)), fun _ dd nd => ⟨true, exC, fun _ a _ => ?_, fun y => Bool.noConfusion y⟩⟩
        exact ⟨_, rfl, rfl, rfl, end_ _ S1 a dd nd⟩
      · refine ⟨_, rfl, one, fun t nt => ⟨one, fun t2 n2 => ⟨_, rfl, _, rfl, ?_⟩⟩⟩
        have S1 := (same_new (o := .tup [nv]) nt).trans (same_new (o := .tup [V.int 0]) n2)
        refine ⟨t, .ref t2, x, y, d, g, v, c, f, s, o, rfl, ⟨nv, sqT_same (same_new n2) (SqT.of upd_same), hn.tp (Tp.same S1)⟩, hx.same S1, hy.same S1, (fun z => absurd (z.symm.trans hna) (by decide)), fun _ dd nd => ⟨true, exC, fun _ a _ => ?_, fun y => Bool.noConfusion y⟩⟩
        exact ⟨_, rfl, rfl, rfl, end_ _ S1 a dd nd⟩
end
end LB

set_option maxRecDepth 100000
set_option maxHeartbeats 8000000
namespace LB
open PySem PySem.Spec PyProof.Rows L2
theorem leI_refl (p : Ins) : leI p p = true := decide_eq_true (Or.inr ⟨rfl, Int.le_refl _⟩)
def CanI (K : PySem.W.Frag) (b pl tr en : Addr) (x : V) (s : Ins) (H0 : Hp) (m : Int) (kv : Option V) : L2.St → Hp → Prop := fun σ H' => ∃ (av : V) (p : Ins), σ = [some (.ref b), some (.ref pl), some x, some (.ref tr), some (.ref en), some av, kv] ∧ Box H' b ∧ But b H0 H' ∧
  At K H' av (some p) ∧ At K H' x (some s) ∧ 0 ≤ p.1 ∧ p.1 ≤ 901000 + m ∧ 0 ≤ p.2 ∧ p.2 ≤ 4 + m
section
variable {P : Program} {w : World} {K : PySem.W.Frag} {mg : Str → Option Value} {base : Heap} {C fI cc cda : Addr}
def spPredict0 (K : PySem.W.Frag) : Sp := fun vs H Q _ => ∃ (pl : Addr) (pp x y : V) (d : Int) (g : Bool) (v c : Int) (f : Option Int) (s : Ins) (o : Option Ins), vs = [.ref pl, pp, x, y] ∧ OneP K H pl d g v c f ∧ At K H x (some s) ∧ At K H y o ∧ notAfter (some s) o = true ∧
  ∀ r H', Same H H' → PrAt K H' r pp x (jobEn d g v c f s o) → Q r H'
def Near (s : Ins) (o : Option Ins) : Prop := ∀ q, o = some q → leI s q = true ∧ 0 ≤ q.1 ∧ q.1 ≤ 1000000 ∧ 0 ≤ q.2 ∧ q.2 ≤ 100
theorem Near.na {s : Ins} {o : Option Ins} (h : Near s o) : notAfter (some s) o = true := by
  cases o with
  | none => rfl
  | some q => exact (h q rfl).1
def StOk (s : Ins) : Prop := 0 ≤ s.1 ∧ s.1 ≤ 900000 ∧ 0 ≤ s.2 ∧ s.2 ≤ 4
def spLCan (K : PySem.W.Frag) : Sp := fun vs H Q _ => ∃ (b pl : Addr) (x : V) (d : Int) (g : Bool) (v c : Int) (f : Option Int) (s : Ins), vs = [.ref b, .ref pl, x] ∧ Box H b ∧ OneP K H pl d g v c f ∧ (0 ≤ d ∧ d ≤ 1000) ∧ At K H x (some s) ∧ StOk s ∧
  ∀ (r : V) (o : Option Ins) (H' : Hp), Near s o → Box H' b → But b H H' → At K H' r o → Q r H'
theorem scLCa : FnScope ["box", "plan", "start", "trace", "entry", "at", "kind"] ["box", "plan", "start"] (defScope sLCancel) := ⟨rfl, rfl, rfl, by decide +kernel, rfl, by decide +kernel, by decide +kernel⟩
theorem ok_lcan {f fD fP : Addr} {fd fdD fdP : FuncData} (F : Fun K "_law_cancel" "_law_cancel" sLCancel f fd) (M : NamesP mg) (FD : Fun K "_law_draw" "_law_draw" sDraw fD fdD) (mD : mg "_law_draw" = some (.ref fD)) (bD : Binds K fdD ["box", "many"] [])
    (GP : FnOk P w K mg base CX0 10 fP fdP ["plan", "path", "start", "cancel"] (spPredict0 K)) (mP : mg "predict" = some (.ref fP)) (kP : PySem.W.keepIn K (.ref fP) = true) (bP : Binds K fdP ["plan", "path", "start", "cancel"] []) :
    FnOk P w K mg base CX0 11 f fd ["box", "plan", "start"] (spLCan K) := by
  have GD : FnOk P w K mg base CX0 1 fD fdD ["box", "many"] (spDraw K) := ok_draw FD M.toNames
  have kD := FD.kp
  refine F.ok scLCa (fun vs H Q E h => ?_) (fun cdv A outer s H vs Q E hr h => ?_)
  · obtain ⟨b, pl, x, d, g, v, c, f, s, rfl, _⟩ := h
    rfl
  · obtain ⟨b, pl, x, d, g, v, c, f, s, rfl, B, hp, hd, hx, so, q⟩ := h
    have nd := scLCa.nd
    have one : (1 : Nat) ≤ sizeLine := by decide
    have two : (2 : Nat) ≤ sizeLine := by decide
    refine ⟨_, (pss_cons (ps_if (pt_cmpR op_eq (pe_call GD (hr.mono (by decide)) rfl mD kD bD .nil pass0 (pa_cons (pv 0) (pa_cons pe_int pa_nil))) pe_int (nomark _)) (pss_one (ps_ret pe_non)) pss_nil)
        (pss_cons (ps_set (i := 3) nd rfl (Or.inl rfl) (pe_ix ix_tup (pe_call GP (hr.mono (by decide)) rfl mP kP bP .nil pass0 (pa_cons (pv 1) (pa_cons (pe_tup (pa_cons pe_int pa_nil)) (pa_cons (pv 2) (pa_cons pe_non pa_nil))))) pe_int (fun _ _ => rfl)))
        (pss_cons (ps_set (i := 4) nd rfl (Or.inl rfl) (pe_ix ix_tup (pv 3) (pe_call GD (hr.mono (by decide)) rfl mD kD bD .nil pass0 (pa_cons (pv 0) (pa_cons (pe_callB call_len_seq (by rfl) M.len PySem.boot_len (pa_cons (pv 3) pa_nil)) pa_nil))) (fun _ _ => rfl)))
        (pss_cons (ps_set (i := 5) nd rfl (Or.inl rfl) (pe_ix ix_tup (pv 4) pe_int (fun _ _ => rfl)))
        (C8.pss_cut (ps_if (PW.pt (pw_and (pt_cmpR op_eq (pe_call GD (hr.mono (by decide)) rfl mD kD bD .nil pass0 (pa_cons (pv 0) (pa_cons pe_int pa_nil))) pe_int (nomark _)) (pw_and1 (pt_cmpR op_notN (pe_ix ix_tup (pv 4) pe_int (fun _ _ => rfl)) pe_non (nomark _))))) (pss_one (ps_set (i := 5) nd rfl (Or.inl rfl) (pe_ix ix_tup (pv 4) pe_int (fun _ _ => rfl)))) pss_nil)
        (pss_cons (ps_set (i := 6) nd rfl (Or.inl rfl) (pe_call GD (hr.mono (by decide)) rfl mD kD bD .nil pass0 (pa_cons (pv 0) (pa_cons pe_int pa_nil))))
        (C8.pss_cut (ps_if (pt_cmpR op_eq (pv 6) pe_int (nomark _)) (pss_one (ps_set (i := 5) nd rfl (Or.inl rfl) (pe_tup (pa_cons (pe_ix ix_tup (pv 5) pe_int (fun _ _ => rfl)) (pa_cons (pe_op op_add (pe_ix ix_tup (pv 5) pe_int (fun _ _ => rfl)) pe_int) pa_nil))))) pss_nil)
        (C8.pss_cut (ps_if (pt_cmpR op_eq (pv 6) pe_int (nomark _)) (pss_one (ps_set (i := 5) nd rfl (Or.inl rfl) (pe_tup (pa_cons (pe_callB (call_max2 rfl) (by rfl) M.max (by decide +kernel) (pa_cons pe_int (pa_cons (pe_op op_sub (pe_ix ix_tup (pv 5) pe_int (fun _ _ => rfl)) pe_int) pa_nil))) (pa_cons (pe_call GD (hr.mono (by decide)) rfl mD kD bD .nil pass0 (pa_cons (pv 0) (pa_cons pe_int pa_nil))) pa_nil))))) pss_nil)
        (C8.pss_cut (ps_if (pt_cmpR op_eq (pv 6) pe_int (nomark _)) (pss_one (ps_set (i := 5) nd rfl (Or.inl rfl) (pe_tup (pa_cons (pe_op op_add (pe_ix ix_tup (pv 5) pe_int (fun _ _ => rfl)) (pe_call GD (hr.mono (by decide)) rfl mD kD bD .nil pass0 (pa_cons (pv 0) (pa_cons pe_int pa_nil)))) (pa_cons pe_int pa_nil))))) pss_nil)
        (C8.pss_cut (ps_if (PW.pt (pw_and (pt_cmpR op_eq (pv 6) pe_int (nomark _)) (pw_and1 (pt_cmpR op_gt (pe_ix ix_tup (pv 5) pe_int (fun _ _ => rfl)) pe_int (nomark _))))) (pss_one (ps_set (i := 5) nd rfl (Or.inl rfl) (pe_tup (pa_cons (pe_ix ix_tup (pv 5) pe_int (fun _ _ => rfl)) (pa_cons (pe_op op_sub (pe_ix ix_tup (pv 5) pe_int (fun _ _ => rfl)) pe_int) pa_nil))))) pss_nil)
        (C8.pss_cut (ps_if (pt_cmpR op_eq (pv 6) pe_int (nomark _)) (pss_one (ps_set (i := 5) nd rfl (Or.inl rfl) (pv 2))) pss_nil)
        (pss_one (ps_ret (pe_callB (call_max2D rfl hr.units) (by rfl) M.max (by decide +kernel) (pa_cons (pv 5) (pa_cons (pv 2) pa_nil)))))))))))))))), ?_⟩
    refine ⟨_, rfl, b, 5, rfl, B, by decide, fun r0 H1 _ _ B1 U1 => ⟨rfl, _, rfl, ite_int (fun _ => ?_) (fun _ => ?_)⟩⟩
    · exact q _ none H1 (fun q e => by cases e) B1 U1 rfl
    have hx1 := hx.but B U1
    have tp1 := Tp.but B U1
    have hp1 : OneP K H1 pl d g v c f := let ⟨nv, sP, hn⟩ := hp; ⟨nv, tp1.seq sP, hn.tp tp1⟩
    refine ⟨_, rfl, one, fun t nt => ⟨_, rfl, ?_⟩⟩
    have S2 := same_new (o := .tup [V.int 0]) nt
    refine ⟨pl, .ref t, x, .non, d, g, v, c, f, s, none, rfl, hp1.tp (same_tpk S2), hx1.same S2, rfl, rfl, fun pr H3 S3 hpr => ?_⟩
    obtain ⟨a, va, vr, tr, en, vb, vq, rfl, h1, h2, h3, h4, h5, h6, h7⟩ := hpr
    refine ⟨a, _, _, _, rfl, rfl, h1, rfl, ?_⟩
    have B3 := (B1.same S2).same S3
    have U3 := (U1.trans (But.of S2)).trans (But.of S3)
    have hx3 := (hx1.same S2).same S3
    refine ⟨_, rfl, _, rfl, _, rfl, tr, _, rfl, .inr h4, b, 1, rfl, B3, by decide, fun r1 H4 z0 z1 B4 U4 => ?_⟩
    have r10 : r1 = 0 := by omega
    subst r10
    have h4' := B3.tup U4 h4
    have h5' := B3.tup U4 h5
    have h6' := h6.but B3 U4
    have hx4 := hx3.but B3 U4
    have U4 := U3.trans U4
    refine ⟨tr, _, _, _, rfl, rfl, h4', rfl, ?_⟩
    refine ⟨_, rfl, en, _, _, _, rfl, rfl, h5', rfl, ?_⟩
    have eb : (jobEn d g v c f s none).1 = laterP s d := rfl
    have lb : 0 ≤ (laterP s d).1 ∧ (laterP s d).1 ≤ 901000 ∧ 0 ≤ (laterP s d).2 ∧ (laterP s d).2 ≤ 4 := by
      obtain ⟨s1, s2, s3, s4⟩ := so
      unfold laterP
      split
      · exact ⟨s1, by omega, s3, s4⟩
      · exact ⟨show 0 ≤ s.1 + d by omega, show s.1 + d ≤ 901000 by omega, (show (0 : Int) ≤ 0 by decide), (show (0 : Int) ≤ 4 by decide)⟩
    rw [eb] at h6'
    -- at, perhaps the start
    refine ⟨CanI K b pl tr en x s H 0 none, ?_, ?_⟩
    · refine ⟨_, rfl, b, 3, rfl, B4, by decide, fun r2 H5 _ _ B5 U5 => ?_⟩
      have h5'' := B4.tup U5 h5'
      have h6'' := h6'.but B4 U5
      have hx5 := hx4.but B4 U5
      have U5 := U4.trans U5
      have stay : CanI K b pl tr en x s H 0 none _ H5 := ⟨vb, _, rfl, B5, U5, h6'', hx5, lb.1, by omega, lb.2.2.1, by omega⟩
      refine ⟨rfl, _, rfl, ite_int (fun _ => ?_) (fun _ => stay)⟩
      refine ⟨_, rfl, en, _, _, _, rfl, rfl, h5'', rfl, rfl, _, rfl, ?_⟩
      obtain ⟨a5, rfl, q5⟩ := id hx5
      refine iteT ⟨_, rfl, en, _, _, _, rfl, rfl, h5'', rfl, ?_⟩
      exact ⟨_, s, rfl, B5, U5, hx5, hx5, so.1, by have := so.2.1; omega, so.2.2.1, by have := so.2.2.2; omega⟩
    rintro σ H5 ⟨av, p, rfl, B5, U5, ha5, hx5, l1, l2, l3, l4⟩
    refine ⟨_, rfl, b, 6, rfl, B5, by decide, fun kd H6 _ _ B6 U6 => ?_⟩
    have ha6 := ha5.but B5 U6
    have hx6 := hx5.but B5 U6
    have U6 := U5.trans U6
    -- kind 1
    refine ⟨CanI K b pl tr en x s H 1 (some (.int kd)), ?_, ?_⟩
    · refine ⟨_, rfl, rfl, _, rfl, ite_int (fun _ => ?_) (fun _ => ⟨av, p, rfl, B6, U6, ha6, hx6, l1, by omega, l3, by omega⟩)⟩
      obtain ⟨a6, rfl, s6⟩ := ha6
      refine ⟨_, rfl, a6, _, _, _, rfl, rfl, s6, rfl, _, rfl, a6, _, _, _, rfl, rfl, s6, rfl, _, _, rfl, rfl, two, fun u nu => ?_⟩
      exact ⟨.ref u, (p.1, p.2 + 1), rfl, B6.new nu, U6.new nu, At.made, hx6.new nu, l1, (show p.1 ≤ 901000 + 1 by omega), (show 0 ≤ p.2 + 1 by omega), (show p.2 + 1 ≤ 4 + 1 by omega)⟩
    clear l1 l2 l3 l4 ha5 hx5 U5 B5 B6 U6 ha6 hx6
    rintro σ H5 ⟨av, p, rfl, B5, U5, ha5, hx5, l1, l2, l3, l4⟩
    -- kind 2
    refine ⟨CanI K b pl tr en x s H 2 (some (.int kd)), ?_, ?_⟩
    · refine ⟨_, rfl, rfl, _, rfl, ite_int (fun _ => ?_) (fun _ => ⟨av, p, rfl, B5, U5, ha5, hx5, l1, by omega, l3, by omega⟩)⟩
      obtain ⟨a6, rfl, s6⟩ := ha5
      refine ⟨_, rfl, a6, _, _, _, rfl, rfl, s6, rfl, _, _, rfl, rfl, _, _, rfl, _, rfl, b, 3, rfl, B5, by decide, fun z H7 z0 z1 B7 U7 => ⟨two, fun u nu => ?_⟩⟩
      have hx7 := hx5.but B5 U7
      generalize ez : (if p.1 - 1 > 0 then p.1 - 1 else 0) = y
      have hy : 0 ≤ y ∧ y ≤ 901001 := by
        rw [← ez]
        split <;> omega
      exact ⟨.ref u, (y, z), rfl, B7.new nu, (U5.trans U7).new nu, At.made, hx7.new nu, hy.1, (show y ≤ 901000 + 2 by omega), z0, (show z ≤ 4 + 2 by omega)⟩
    clear l1 l2 l3 l4 ha5 hx5 U5 B5
    rintro σ H5 ⟨av, p, rfl, B5, U5, ha5, hx5, l1, l2, l3, l4⟩
    -- kind 3
    refine ⟨CanI K b pl tr en x s H 10 (some (.int kd)), ?_, ?_⟩
    · refine ⟨_, rfl, rfl, _, rfl, ite_int (fun _ => ?_) (fun _ => ⟨av, p, rfl, B5, U5, ha5, hx5, l1, by omega, l3, by omega⟩)⟩
      obtain ⟨a6, rfl, s6⟩ := ha5
      refine ⟨_, rfl, a6, _, _, _, rfl, rfl, s6, rfl, _, rfl, b, 5, rfl, B5, by decide, fun z H7 z0 z1 B7 U7 => ⟨_, _, rfl, rfl, two, fun u nu => ?_⟩⟩
      have hx7 := hx5.but B5 U7
      exact ⟨.ref u, (p.1 + z, 0), rfl, B7.new nu, (U5.trans U7).new nu, At.made, hx7.new nu, (show 0 ≤ p.1 + z by omega), (show p.1 + z ≤ 901000 + 10 by omega), (show (0 : Int) ≤ 0 by decide), (show (0 : Int) ≤ 4 + 10 by decide)⟩
    clear l1 l2 l3 l4 ha5 hx5 U5 B5
    rintro σ H5 ⟨av, p, rfl, B5, U5, ha5, hx5, l1, l2, l3, l4⟩
    -- kind 4
    refine ⟨CanI K b pl tr en x s H 10 (some (.int kd)), ?_, ?_⟩
    · have stay : CanI K b pl tr en x s H 10 (some (.int kd)) _ H5 := ⟨av, p, rfl, B5, U5, ha5, hx5, l1, by omega, l3, by omega⟩
      refine ⟨_, rfl, rfl, _, rfl, ite_int (fun _ => ?_) (fun _ => stay)⟩
      obtain ⟨a6, rfl, s6⟩ := ha5
      refine ⟨_, rfl, a6, _, _, _, rfl, rfl, s6, rfl, _, _, rfl, rfl, _, rfl, ite2 (fun c => ?_) (fun _ => stay)⟩
      have c := of_decide_eq_true c
      refine ⟨_, rfl, a6, _, _, _, rfl, rfl, s6, rfl, _, rfl, a6, _, _, _, rfl, rfl, s6, rfl, _, _, rfl, rfl, two, fun u nu => ?_⟩
      exact ⟨.ref u, (p.1, p.2 - 1), rfl, B5.new nu, U5.new nu, At.made, hx5.new nu, l1, (show p.1 ≤ 901000 + 10 by omega), (show 0 ≤ p.2 - 1 by omega), (show p.2 - 1 ≤ 4 + 10 by omega)⟩
    clear l1 l2 l3 l4 ha5 hx5 U5 B5
    rintro σ H5 ⟨av, p, rfl, B5, U5, ha5, hx5, l1, l2, l3, l4⟩
    -- kind 5
    refine ⟨CanI K b pl tr en x s H 10 (some (.int kd)), ?_, ?_⟩
    · refine ⟨_, rfl, rfl, _, rfl, ite_int (fun _ => ?_) (fun _ => ⟨av, p, rfl, B5, U5, ha5, hx5, l1, by omega, l3, by omega⟩)⟩
      exact ⟨_, rfl, x, s, rfl, B5, U5, hx5, hx5, so.1, by have := so.2.1; omega, so.2.2.1, by have := so.2.2.2; omega⟩
    clear l1 l2 l3 l4 ha5 hx5 U5 B5
    rintro σ H5 ⟨av, p, rfl, B5, U5, ha5, hx5, l1, l2, l3, l4⟩
    refine ⟨_, rfl, _, rfl, av, x, _, _, rfl, ha5.dp, hx5.dp, (ins_both p s).1, (ins_both p s).2, ?_⟩
    rw [ins_lt]
    cases hle : leI s p with
    | true =>
      exact q av (some p) H5 (fun q e => by cases e; exact ⟨hle, l1, by omega, l3, by omega⟩) B5 U5 ha5
    | false =>
      exact q x (some s) H5 (fun q e => by cases e; exact ⟨leI_refl s, so.1, by have := so.2.1; omega, so.2.2.1, by have := so.2.2.2; omega⟩) B5 U5 hx5
end
end LB

set_option maxRecDepth 100000
set_option maxHeartbeats 8000000
namespace LB
open PySem PySem.Spec PyProof.Rows L2
theorem szTwo' : (2 : Nat) ≤ sizeLine := by decide
def spLaw (K : PySem.W.Frag) : Sp := fun vs H Q _ => ∃ (a : Addr) (ns : List Int), vs = [.ref a] ∧ SqL K H a (ns.map V.int) ∧ ∀ H', Q (.bl true) H'
def dPr (pd : PyData) (s : Ins) (e : En) : PyData := .tuple [dIns (some e.1), .str e.2.1, .tuple (e.2.2.map .int), .tuple [.tuple [pd, dIns (some s), dIns (some e.1), .str e.2.1, .tuple (e.2.2.map .int)]]]
theorem PrAt.dp {K : PySem.W.Frag} {H : Hp} {v pp sv : V} {pd : PyData} {s : Ins} {e : En} (h : PrAt K H v pp sv e) (hp : Dp K H pp pd) (hs : At K H sv (some s)) : Dp K H v (dPr pd s e) := by
  obtain ⟨a, va, vr, tr, en, vb, vq, rfl, h1, h2, h3, h4, h5, h6, h7⟩ := h
  exact .tup h1 (.cons h2.dp (.cons (.str _) (.cons (.tup h3 dpI) (.cons (.tup h4 (.cons (.tup h5 (.cons hp (.cons hs.dp (.cons h6.dp (.cons (.str _) (.cons (.tup h7 dpI) .nil)))))) .nil)) .nil))))
def SmQ (p : Ins) : Prop := Sm p.1 ∧ Sm p.2
theorem td_ins {p : Ins} (h : SmQ p) : Td (dIns (some p)) 1 2 := .tup (.cons (.int h.1) (.cons (.int h.2) .nil))
theorem td_words : Td (.str "completed") 0 9 ∧ Td (.str "failed") 0 9 ∧ Td (.str "cancelled") 0 9 := ⟨(Td.str (by decide +kernel)).up (by decide) (by decide +kernel), (Td.str (by decide +kernel)).up (by decide) (by decide +kernel), (Td.str (by decide +kernel)).up (by decide) (by decide +kernel)⟩
structure SmE (e : En) : Prop where
  i : SmQ e.1
  w : Td (.str e.2.1) 0 9
  r : e.2.2.length ≤ 1 ∧ ∀ n ∈ e.2.2, Sm n
theorem SmE.ints {e : En} (h : SmE e) : Td (.tuple (e.2.2.map .int)) 1 1 := (Td.tup (TdA.ints h.r.2)).up (Nat.le_refl _) h.r.1
theorem SmE.td {e : En} (h : SmE e) : Td (dEn e) 2 20 := (Td.tup ((TdA.cons ((td_ins h.i).up (Nat.le_refl _) (Nat.le_refl _)) (TdA.cons (h.w.up (by decide) (Nat.le_refl _)) (TdA.cons h.ints .nil))))).up (by decide) (by decide)
theorem SmE.pr {e : En} {s : Ins} {pd : PyData} (h : SmE e) (hs : SmQ s) (hp : Td pd 1 20) : Td (dPr pd s e) 5 100 := by
  have en : Td (.tuple [pd, dIns (some s), dIns (some e.1), .str e.2.1, .tuple (e.2.2.map .int)]) 2 50 := (Td.tup (TdA.cons hp (TdA.cons (td_ins hs) (TdA.cons (td_ins h.i) (TdA.cons (h.w.up (by decide) (Nat.le_refl _)) (TdA.cons h.ints .nil)))))).up (by decide) (by decide)
  have tr : Td (.tuple [.tuple [pd, dIns (some s), dIns (some e.1), .str e.2.1, .tuple (e.2.2.map .int)]]) 3 51 := (Td.tup (TdA.cons en .nil)).up (by decide) (by decide)
  exact (Td.tup (TdA.cons ((td_ins h.i).up (by decide) (Nat.le_refl _)) (TdA.cons (h.w.up (by decide) (Nat.le_refl _)) (TdA.cons (h.ints.up (by decide) (Nat.le_refl _)) (TdA.cons tr .nil))))).up (by decide) (by decide)
theorem sm_later {p : Ins} {k : Int} (h : 0 ≤ p.1 ∧ p.1 ≤ 1000000 ∧ 0 ≤ p.2 ∧ p.2 ≤ 200) (h0 : 0 ≤ k) (h1 : k ≤ 1000) : SmQ (laterP p k) := by
  obtain ⟨a, b, c, d⟩ := h
  unfold laterP
  split
  · exact ⟨Sm.of (by omega) (by omega), Sm.of (by omega) (by omega)⟩
  · exact ⟨Sm.of (show -1000000000 ≤ p.1 + k by omega) (show p.1 + k ≤ 1000000000 by omega), Sm.of (show -1000000000 ≤ (0 : Int) by decide) (show (0 : Int) ≤ 1000000000 by decide)⟩
theorem sm_job {d : Int} {g : Bool} {v c : Int} {f : Option Int} {s : Ins} {o : Option Ins} (j : JobOk d v c f) (so : StOk s) (no : Near s o) : SmE (jobEn d g v c f s o) := by
  obtain ⟨⟨d0, d1⟩, ⟨v0, v1⟩, ⟨c0, c1⟩, jf⟩ := j
  obtain ⟨s1, s2, s3, s4⟩ := so
  have own : SmE (laterP s d, doneW g, [v]) := ⟨sm_later ⟨s1, by omega, s3, by omega⟩ d0 d1, (by cases g; exact td_words.2.1; exact td_words.1), ⟨Nat.le_refl 1, fun n hn => by rw [List.mem_singleton.mp hn]; exact Sm.of (by omega) (by omega)⟩⟩
  cases o with
  | none => exact own
  | some q =>
    show SmE (if leI (laterP s d) q = true then _ else _)
    split
    · exact own
    · obtain ⟨_, q1, q2, q3, q4⟩ := no q rfl
      have sq : SmQ (laterP (q.1, q.2 + 1) c) := sm_later (p := (q.1, q.2 + 1)) ⟨q1, q2, (show 0 ≤ q.2 + 1 by omega), (show q.2 + 1 ≤ 200 by omega)⟩ c0 (by omega)
      unfold cutEn
      cases f with
      | none => exact ⟨sq, td_words.2.2, ⟨Nat.zero_le _, fun n hn => nomatch hn⟩⟩
      | some y =>
        have := jf y rfl
        exact ⟨sq, td_words.2.1, ⟨Nat.le_refl 1, fun n hn => by rw [List.mem_singleton.mp hn]; exact Sm.of (by omega) (by omega)⟩⟩
end LB

set_option maxRecDepth 100000
set_option maxHeartbeats 8000000
namespace LB
open PySem PySem.Spec PyProof.Rows L2
def spJobEnd0 (K : PySem.W.Frag) : Sp := fun vs H Q _ => ∃ (nv x y : V) (d : Int) (g : Bool) (v c : Int) (f : Option Int) (s : Ins) (o : Option Ins), vs = [nv, x, y] ∧ NdAt K H nv (.job d g v c f) ∧ At K H x (some s) ∧ At K H y o ∧ notAfter (some s) o = true ∧
  ∀ r H', Same H H' → EnAt K H' r (jobEn d g v c f s o) → Q r H'
def spEndOf0 (K : PySem.W.Frag) : Sp := fun vs H Q _ => ∃ (pl : Addr) (x y : V) (d : Int) (g : Bool) (v c : Int) (f : Option Int) (s : Ins) (o : Option Ins), vs = [.ref pl, x, y] ∧ OneP K H pl d g v c f ∧ At K H x (some s) ∧ At K H y o ∧ notAfter (some s) o = true ∧
  ∀ r H', Same H H' → EnAt K H' r (jobEn d g v c f s o) → Q r H'
structure Defs (K : PySem.W.Frag) (mg : Str → Option Value) (base : Heap) (P : Program) (w : World) : Prop where
  D : ∃ f fd, FnOk P w K mg base CX0 1 f fd ["box", "many"] (spDraw K) ∧ mg "_law_draw" = some (.ref f) ∧ PySem.W.keepIn K (.ref f) = true ∧ Binds K fd ["box", "many"] []
  G : ∃ f fd, FnOk P w K mg base CX0 2 f fd ["script", "first", "last"] (spDigits K) ∧ mg "_law_digits" = some (.ref f) ∧ PySem.W.keepIn K (.ref f) = true ∧ Binds K fd ["script", "first", "last"] []
  A : ∃ f fd, FnG P w K mg base CX0 1 f fd ["one", "two"] (spAlike K) ∧ mg "_law_alike" = some (.ref f) ∧ PySem.W.keepIn K (.ref f) = true ∧ Binds K fd ["one", "two"] []
  J : ∃ f fd, FnOk P w K mg base CX0 2 f fd ["box"] (spJob K) ∧ mg "_law_job" = some (.ref f) ∧ PySem.W.keepIn K (.ref f) = true ∧ Binds K fd ["box"] []
  S : ∃ f fd, FnOk P w K mg base CX0 2 f fd ["box"] (spLStart K) ∧ mg "_law_start" = some (.ref f) ∧ PySem.W.keepIn K (.ref f) = true ∧ Binds K fd ["box"] []
  C : ∃ f fd, FnOk P w K mg base CX0 11 f fd ["box", "plan", "start"] (spLCan K) ∧ mg "_law_cancel" = some (.ref f) ∧ PySem.W.keepIn K (.ref f) = true ∧ Binds K fd ["box", "plan", "start"] []
  E : ∃ f fd, FnOk P w K mg base CX0 2 f fd ["job", "start", "cancel"] (spLEnd K) ∧ mg "_law_end" = some (.ref f) ∧ PySem.W.keepIn K (.ref f) = true ∧ Binds K fd ["job", "start", "cancel"] []
  R : ∃ f fd, FnOk P w K mg base CX0 11 f fd ["which", "job", "start", "cancel"] (spLRef K) ∧ mg "_law_refused" = some (.ref f) ∧ PySem.W.keepIn K (.ref f) = true ∧ Binds K fd ["which", "job", "start", "cancel"] []
  X : ∃ f fd, FnOk P w K mg base CX0 4 f fd ["node", "start", "cancel"] (spJobEnd0 K) ∧ mg "job_end" = some (.ref f) ∧ PySem.W.keepIn K (.ref f) = true ∧ Binds K fd ["node", "start", "cancel"] []
  Y : ∃ f fd, FnOk P w K mg base CX0 9 f fd ["plan", "start", "cancel"] (spEndOf0 K) ∧ mg "end_of" = some (.ref f) ∧ PySem.W.keepIn K (.ref f) = true ∧ Binds K fd ["plan", "start", "cancel"] []
  Z : ∃ f fd, FnOk P w K mg base CX0 10 f fd ["plan", "path", "start", "cancel"] (spPredict0 K) ∧ mg "predict" = some (.ref f) ∧ PySem.W.keepIn K (.ref f) = true ∧ Binds K fd ["plan", "path", "start", "cancel"] []
  names : NamesP mg
/-- a turn's values -/
structure TurnI (K : PySem.W.Frag) (b : Addr) (nv sv cv dv : V) (d : Int) (g : Bool) (v c : Int) (f : Option Int) (s : Ins) (o : Option Ins) (H : Hp) : Prop where
  B : Box H b
  n : NdAt K H nv (.job d g v c f)
  s_ : At K H sv (some s)
  c_ : At K H cv o
  d_ : EnAt K H dv (jobEn d g v c f s o)
section
variable {K : PySem.W.Frag} {b : Addr} {nv sv cv dv : V} {d : Int} {g : Bool} {v c : Int} {f : Option Int} {s : Ins} {o : Option Ins} {H H' : Hp}
theorem TurnI.same (T : TurnI K b nv sv cv dv d g v c f s o H) (S : Same H H') : TurnI K b nv sv cv dv d g v c f s o H' := ⟨T.B.same S, T.n.tp (Tp.same S), T.s_.same S, T.c_.same S, T.d_.same S⟩
theorem TurnI.but (T : TurnI K b nv sv cv dv d g v c f s o H) (B : Box H' b) (U : But b H H') : TurnI K b nv sv cv dv d g v c f s o H' :=
  ⟨B, T.n.tp (Tp.but T.B U), T.s_.but T.B U, T.c_.but T.B U, T.d_.tp fun a xs h => T.B.tup U h⟩
end
theorem rep_len (k : Nat) (i j : Int) : (List.replicate k [V.int i, V.int j]).flatten = ((List.replicate k [i, j]).flatten).map V.int := by
  induction k with
  | zero => rfl
  | succ k ih => rw [List.replicate_succ, List.flatten_cons, ih, List.replicate_succ, List.flatten_cons, List.map_append]; rfl
theorem rep_mem {k : Nat} {i j n : Int} (h : n ∈ (List.replicate k [i, j]).flatten) : n = i ∨ n = j := by
  obtain ⟨l, hl, hn⟩ := List.mem_flatten.mp h
  rw [(List.mem_replicate.mp hl).2] at hn
  rcases List.mem_cons.mp hn with h | h
  · exact .inl h
  · exact .inr (List.mem_singleton.mp h)
theorem rep_size (k : Nat) (i j : Int) : ((List.replicate k [i, j]).flatten).length = 2 * k := by
  induction k with
  | zero => rfl
  | succ k ih => rw [List.replicate_succ, List.flatten_cons, List.length_append, ih]; show 2 + 2 * k = 2 * (k + 1); omega
section
variable {P : Program} {w : World} {K : PySem.W.Frag} {mg : Str → Option Value} {base : Heap}
theorem scLaw : FnScope ["script", "box", "turn", "job", "start", "cancel", "due", "path", "whole", "early", "which"] ["script"] (defScope sLaw) := ⟨rfl, rfl, rfl, by decide +kernel, rfl, by decide +kernel, by decide +kernel⟩
theorem ok_law {f : Addr} {fd : FuncData} (F : Fun K "law" "law" sLaw f fd) (T : Defs K mg base P w) : FnG P w K mg base CX0 13 f fd ["script"] (spLaw K) := by
  obtain ⟨_, _, GD, mD, kD, bD⟩ := T.D
  obtain ⟨_, _, GG, mG, kG, bG⟩ := T.G
  obtain ⟨_, _, GA, mA, kA, bA⟩ := T.A
  obtain ⟨_, _, GJ, mJ, kJ, bJ⟩ := T.J
  obtain ⟨_, _, GS, mS, kS, bS⟩ := T.S
  obtain ⟨_, _, GC, mC, kC, bC⟩ := T.C
  obtain ⟨_, _, GE, mE, kE, bE⟩ := T.E
  obtain ⟨_, _, GR, mR, kR, bR⟩ := T.R
  obtain ⟨_, _, GX, mX, kX, bX⟩ := T.X
  obtain ⟨_, _, GY, mY, kY, bY⟩ := T.Y
  obtain ⟨_, _, GZ, mZ, kZ, bZ⟩ := T.Z
  have M := T.names
  refine FnG.of_fun F scLaw (fun vs H Q E h => ?_) (fun cdv A outer s0 H vs Q E gf hr h => ?_)
  · obtain ⟨a, ns, rfl, _⟩ := h
    rfl
  · obtain ⟨a, ns, rfl, hS, q⟩ := h
    have nd := scLaw.nd
    have one : (1 : Nat) ≤ sizeLine := by decide
    refine ⟨_, (pss_cons (ps_set (i := 1) nd rfl (Or.inl rfl) (pe_lst (pa_cons (pe_call GG (hr.mono (by decide)) rfl mG kG bG .nil pass0 (pa_cons (pv 0) (pa_cons pe_int (pa_cons pe_int pa_nil)))) (pa_cons pe_int pa_nil))))
        (pss_cons (ps_for PassesOwn.never rfl (pi_range1 (by rfl) M.range (pa_cons pe_int pa_nil)) (pg_name (i := 2) nd rfl (Or.inl rfl)) (pss_cons (ps_set (i := 3) nd rfl (Or.inl rfl) (pe_call GJ (hr.mono (by decide)) rfl mJ kJ bJ .nil pass0 (pa_cons (pv 1) pa_nil)))
        (pss_cons (ps_set (i := 4) nd rfl (Or.inl rfl) (pe_call GS (hr.mono (by decide)) rfl mS kS bS .nil pass0 (pa_cons (pv 1) pa_nil)))
        (pss_cons (ps_set (i := 5) nd rfl (Or.inl rfl) (pe_call GC (hr.mono (by decide)) rfl mC kC bC .nil pass0 (pa_cons (pv 1) (pa_cons (pe_tup (pa_cons (pv 3) pa_nil)) (pa_cons (pv 4) pa_nil)))))
        (pss_cons (ps_set (i := 6) nd rfl (Or.inl rfl) (pe_call GE (hr.mono (by decide)) rfl mE kE bE .nil pass0 (pa_cons (pv 3) (pa_cons (pv 4) (pa_cons (pv 5) pa_nil)))))
        (C8.pss_cut (ps_set (i := 7) nd rfl (Or.inl rfl) (pe_op op_catT (pe_tup (pa_cons (pe_call GD (hr.mono (by decide)) rfl mD kD bD .nil pass0 (pa_cons (pv 1) (pa_cons pe_int pa_nil))) pa_nil)) (pe_op op_repA (pe_tup (pa_cons (pe_call GD (hr.mono (by decide)) rfl mD kD bD .nil pass0 (pa_cons (pv 1) (pa_cons pe_int pa_nil))) (pa_cons (pe_call GD (hr.mono (by decide)) rfl mD kD bD .nil pass0 (pa_cons (pv 1) (pa_cons pe_int pa_nil))) pa_nil))) (pe_call GD (hr.mono (by decide)) rfl mD kD bD .nil pass0 (pa_cons (pv 1) (pa_cons pe_int pa_nil))))))
        (pss_cons (ps_if (PW.pt (pw_or (pt_not (pt_val (pe_callF gf GA (hr.mono (by decide)) rfl mA kA bA .nil pass0 (pa_cons (pe_call GX (hr.mono (by decide)) rfl mX kX bX .nil pass0 (pa_cons (pv 3) (pa_cons (pv 4) (pa_cons (pv 5) pa_nil)))) (pa_cons (pv 6) pa_nil))))) (pw_or1 (pt_not (pt_val (pe_callF gf GA (hr.mono (by decide)) rfl mA kA bA .nil pass0 (pa_cons (pe_call GY (hr.mono (by decide)) rfl mY kY bY .nil pass0 (pa_cons (pe_tup (pa_cons (pv 3) pa_nil)) (pa_cons (pv 4) (pa_cons (pv 5) pa_nil)))) (pa_cons (pv 6) pa_nil)))))))) (pss_one (ps_ret pe_bl)) pss_nil)
        (pss_cons (ps_set (i := 8) nd rfl (Or.inl rfl) (pe_op op_catT (pv 6) (pe_tup (pa_cons (pe_tup (pa_cons (pe_op op_catT (pe_tup (pa_cons (pv 7) (pa_cons (pv 4) pa_nil))) (pv 6)) pa_nil)) pa_nil))))
        (pss_cons (ps_if (pt_not (pt_val (pe_callF gf GA (hr.mono (by decide)) rfl mA kA bA .nil pass0 (pa_cons (pe_call GZ (hr.mono (by decide)) rfl mZ kZ bZ .nil pass0 (pa_cons (pe_tup (pa_cons (pv 3) pa_nil)) (pa_cons (pv 7) (pa_cons (pv 4) (pa_cons (pv 5) pa_nil))))) (pa_cons (pv 8) pa_nil))))) (pss_one (ps_ret pe_bl)) pss_nil)
        (pss_cons (ps_set (i := 9) nd rfl (Or.inl rfl) (pe_tup (pa_cons (pe_ix ix_tup (pv 4) pe_int (fun _ _ => rfl)) (pa_cons (pe_op op_sub (pe_ix ix_tup (pv 4) pe_int (fun _ _ => rfl)) pe_int) pa_nil))))
        (C8.pss_cut (ps_if (pt_cmpR op_eq (pe_ix ix_tup (pv 4) pe_int (fun _ _ => rfl)) pe_int (nomark _)) (pss_one (ps_set (i := 9) nd rfl (Or.inl rfl) (pe_tup (pa_cons (pe_op op_sub (pe_ix ix_tup (pv 4) pe_int (fun _ _ => rfl)) pe_int) (pa_cons pe_int pa_nil))))) pss_nil)
        (pss_one (ps_for PassesOwn.never rfl (pi_range1 (by rfl) M.range (pa_cons pe_int pa_nil)) (pg_name (i := 10) nd rfl (Or.inl rfl)) (pss_one (ps_if (PW.pt (pw_and (pt_cmpR op_ge (pe_ix ix_tup (pv 9) pe_int (fun _ _ => rfl)) pe_int (nomark _)) (pw_and1 (pt_cmpR op_ne (pe_call GR (hr.mono (by decide)) rfl mR kR bR .nil pass0 (pa_cons (pv 10) (pa_cons (pv 3) (pa_cons (pv 4) (pa_cons (pv 9) pa_nil))))) pe_str (nomark _))))) (pss_one (ps_ret pe_bl)) pss_nil)))))))))))))))
        (pss_one (ps_ret pe_bl)))), ?_⟩
    refine ⟨_, rfl, a, ns, 0, 63, rfl, hS, by decide, by decide, by decide, fun ds H1 l s1 nl hl hd hlen => ⟨szTwo', fun b nb => ?_⟩⟩
    have B0 : Box (upd H1 b (.lst [.ref l, .int 0])) b := ⟨l, ds, 0, upd_same, by rw [upd_ne (ne_of_none hl nb)]; exact hl, (ne_of_none hl nb).symm, by decide, hlen⟩
    refine ⟨8, rfl, by decide, by decide, for_range (n := 8) (fun m σ H' => ∃ v2 v3 v4 v5 v6 v7 v8 v9 v10 : Option V, σ = [some (.ref a), some (.ref b), v2, v3, v4, v5, v6, v7, v8, v9, v10] ∧ Box H' b)
      ⟨none, none, none, none, none, none, none, none, none, rfl, B0⟩ ?_ ?_⟩
    · rintro m σ H0 hm ⟨v2, v3, v4, v5, v6, v7, v8, v9, v10, rfl, B0⟩
      refine ⟨_, rfl, b, rfl, B0, fun nv d g v c f H2 jo B2 U2 hn => ?_⟩
      refine ⟨_, rfl, b, rfl, B2, fun sv s H3 so B3 U3 hs => ?_⟩
      have hn3 := hn.tp (Tp.but B2 U3)
      refine ⟨_, rfl, _, rfl, one, fun t nt => ⟨_, rfl, ?_⟩⟩
      have S4 := same_new (o := .tup [nv]) nt
      refine ⟨b, t, sv, d, g, v, c, f, s, rfl, B3.same S4, ⟨nv, SqT.of upd_same, hn3.tp (Tp.same S4)⟩, jo.1, hs.same S4, so, fun cv o H5 no B5 U5 hc => ?_⟩
      have hn5 := (hn3.tp (Tp.same S4)).tp (Tp.but (B3.same S4) U5)
      have hs5 := (hs.same S4).but (B3.same S4) U5
      refine ⟨_, rfl, _, rfl, _, rfl, nv, sv, cv, d, g, v, c, f, s, o, rfl, hn5, hs5, hc, fun dv H6 S6 hd => ?_⟩
      have TI : TurnI K b nv sv cv dv d g v c f s o H6 := ⟨B5.same S6, hn5.tp (Tp.same S6), hs5.same S6, hc.same S6, hd⟩
      have na := no.na
      have sme := sm_job jo so no (g := g)
      clear hn hs hn3 hn5 hs5 hc hd B2 B3 B5 U2 U3 U5 S4 S6 nt B0
      -- path
      refine ⟨fun σ H' => ∃ (pa : Addr) (ps : List Int) (v2 v8 v9 v10 : Option V), σ = [some (.ref a), some (.ref b), v2, some nv, some sv, some cv, some dv, some (.ref pa), v8, v9, v10] ∧ TurnI K b nv sv cv dv d g v c f s o H' ∧ SqT K H' pa (ps.map V.int) ∧ ps.length ≤ 5 ∧ ∀ n ∈ ps, Sm n, ?_, ?_⟩
      · refine ⟨_, rfl, b, 8, rfl, TI.B, by decide, fun k1 H7 a0 a1 B7 U7 => ⟨one, fun t1 n1 => ?_⟩⟩
        have T7 := (TI.but B7 U7).same (same_new (o := .tup [.int k1]) n1)
        refine ⟨_, rfl, b, 3, rfl, T7.B, by decide, fun k2 H8 b0 b1 B8 U8 => ?_⟩
        have T8 := T7.but B8 U8
        have e1 := T7.B.tup U8 (K := K) (a := t1) (xs := [.int k1]) (SqT.of upd_same)
        refine ⟨_, rfl, b, 6, rfl, T8.B, by decide, fun k3 H9 c0 c1 B9 U9 => ⟨szTwo', fun t2 n2 => ?_⟩⟩
        have T9 := (T8.but B9 U9).same (same_new (o := .tup [.int k2, .int k3]) n2)
        have e1 := sqT_same (same_new (o := .tup [.int k2, .int k3]) n2) (T8.B.tup U9 e1)
        refine ⟨_, rfl, b, 3, rfl, T9.B, by decide, fun k4 HA d0 d1 BA UA => ?_⟩
        have TA := T9.but BA UA
        have e1 := T9.B.tup UA e1
        have e2 := T9.B.tup UA (K := K) (a := t2) (xs := [.int k2, .int k3]) (SqT.of upd_same)
        have s1 : Sm k1 := Sm.of (by omega) (by omega)
        have s2 : Sm k2 := Sm.of (by omega) (by omega)
        have s3 : Sm k3 := Sm.of (by omega) (by omega)
        refine ⟨t2, k4, _, rfl, rfl, e2, by simp, by omega, by omega, (by show 2 ≤ 1000; decide), fun e => ?_, fun ne t3 n3 => ?_⟩
        · refine ⟨t1, t2, _, _, rfl, rfl, e1, e2, by simp, by show 3 ≤ sizeLine; decide, fun z => (by cases z), fun _ p np => ?_⟩
          refine ⟨p, [k1, k2, k3], _, _, _, _, rfl, TA.same (same_new np), SqT.of upd_same, (by show 3 ≤ 5; decide), fun n hn => ?_⟩
          rcases List.mem_cons.mp hn with rfl | hn
          · exact s1
          · rcases List.mem_cons.mp hn with rfl | hn
            · exact s2
            · rw [List.mem_singleton.mp hn]; exact s3
        · have TB := TA.same (same_new (o := .tup (List.replicate k4.toNat [V.int k2, .int k3]).flatten) n3)
          have e1 := sqT_same (same_new (o := .tup (List.replicate k4.toNat [V.int k2, .int k3]).flatten) n3) e1
          have e3 : SqT K (upd HA t3 (.tup (List.replicate k4.toNat [V.int k2, .int k3]).flatten)) t3 (((List.replicate k4.toNat [k2, k3]).flatten).map V.int) := by rw [← rep_len]; exact SqT.of upd_same
          generalize upd HA t3 (.tup (List.replicate k4.toNat [V.int k2, .int k3]).flatten) = HB at *
          refine ⟨t1, t3, _, _, rfl, rfl, e1, e3, by simp, ?_, fun z => ?_, fun _ p np => ?_⟩
          · rw [List.length_map, rep_size]
            exact Nat.le_trans (show 1 + 2 * k4.toNat ≤ 10 by omega) (by decide)
          · exact ⟨t1, [k1], _, _, _, _, rfl, TB, e1, (by show 1 ≤ 5; decide), fun n hn => by rw [List.mem_singleton.mp hn]; exact s1⟩
          · refine ⟨p, k1 :: (List.replicate k4.toNat [k2, k3]).flatten, _, _, _, _, rfl, TB.same (same_new np), SqT.of upd_same, ?_, fun n hn => ?_⟩
            · rw [List.length_cons, rep_size]
              omega
            · rcases List.mem_cons.mp hn with rfl | hn
              · exact s1
              · rcases rep_mem hn with rfl | rfl
                · exact s2
                · exact s3
      clear TI v2 v3 v4 v5 v6 v7 v8 v9 v10
      rintro σ H7 ⟨pa, ps, v2, v8, v9, v10, rfl, T7, hpa, pl, psm⟩
      -- job_end, end_of
      have she : Short (dEn (jobEn d g v c f s o)) := sme.td.short (by decide) (by decide)
      refine ⟨_, rfl, _, rfl, _, rfl, nv, sv, cv, d, g, v, c, f, s, o, rfl, T7.n, T7.s_, T7.c_, na, fun r1 H8 S8 er1 => ⟨_, rfl, ?_⟩⟩
      have T8 := T7.same S8
      refine ⟨_, _, _, rfl, er1.dp, T8.d_.dp, she, _, rfl, iteF ?_⟩
      refine ⟨_, rfl, one, fun t nt => ⟨_, rfl, _, rfl, ?_⟩⟩
      have S9 := same_new (o := .tup [nv]) nt
      have T9 := T8.same S9
      refine ⟨t, sv, cv, d, g, v, c, f, s, o, rfl, ⟨nv, SqT.of upd_same, T9.n⟩, T9.s_, T9.c_, na, fun r2 HA SA er2 => ⟨_, rfl, ?_⟩⟩
      have TA := T9.same SA
      refine ⟨_, _, _, rfl, er2.dp, TA.d_.dp, she, _, rfl, iteF ?_⟩
      have hpaA := sqT_same SA (sqT_same S9 (sqT_same S8 hpa))
      clear S8 T8 S9 T9 SA er1 er2
      -- whole
      obtain ⟨ea, va, vr, rfl, sd, ad, rd⟩ := id TA.d_
      refine ⟨_, rfl, _, rfl, _, rfl, szTwo', fun t1 n1 => ⟨_, rfl, ?_⟩⟩
      have S1 := same_new (o := .tup [.ref pa, sv]) n1
      refine ⟨t1, ea, _, _, rfl, rfl, SqT.of upd_same, sqT_same S1 sd, by simp, by show 5 ≤ sizeLine; decide, fun z => (by cases z), fun _ t2 n2 => ⟨one, fun t3 n3 => ⟨one, fun t4 n4 => ?_⟩⟩⟩
      have S2 := same_new (o := .tup ([.ref pa, sv] ++ [va, .str (jobEn d g v c f s o).2.1, .ref vr])) n2
      have S3 := same_new (o := .tup [.ref t2]) n3
      have S4 := same_new (o := .tup [.ref t3]) n4
      have S := ((S1.trans S2).trans S3).trans S4
      refine ⟨ea, t4, _, _, rfl, rfl, sqT_same S sd, SqT.of upd_same, by simp, by show 4 ≤ sizeLine; decide, fun z => (by cases z), fun _ t5 n5 => ?_⟩
      have S5 := same_new (o := .tup ([va, .str (jobEn d g v c f s o).2.1, .ref vr] ++ [.ref t3])) n5
      have Sa := S.trans S5
      have TB := TA.same Sa
      have hpaB := sqT_same Sa hpaA
      have whole : PrAt K (upd (upd (upd (upd (upd HA t1 (.tup [.ref pa, sv])) t2 (.tup ([.ref pa, sv] ++ [va, .str (jobEn d g v c f s o).2.1, .ref vr]))) t3 (.tup [.ref t2])) t4 (.tup [.ref t3])) t5 (.tup ([va, .str (jobEn d g v c f s o).2.1, .ref vr] ++ [.ref t3]))) (.ref t5) (.ref pa) sv (jobEn d g v c f s o) :=
        ⟨t5, va, vr, t3, t2, va, vr, rfl, SqT.of upd_same, ad.same Sa, sqT_same Sa rd, sqT_same S5 (sqT_same S4 (SqT.of upd_same)), sqT_same S5 (sqT_same S4 (sqT_same S3 (SqT.of upd_same))), ad.same Sa, sqT_same Sa rd⟩
      generalize upd (upd (upd (upd (upd HA t1 (.tup [.ref pa, sv])) t2 (.tup ([.ref pa, sv] ++ [va, .str (jobEn d g v c f s o).2.1, .ref vr]))) t3 (.tup [.ref t2])) t4 (.tup [.ref t3])) t5 (.tup ([va, .str (jobEn d g v c f s o).2.1, .ref vr] ++ [.ref t3])) = HB at *
      clear S1 S2 S3 S4 S5 S Sa sd ad rd n1 n2 n3 n4 n5 TA hpaA T7 hpa
      -- predict
      refine ⟨_, rfl, one, fun u nu => ⟨_, rfl, _, rfl, _, rfl, ?_⟩⟩
      have S1 := same_new (o := .tup [nv]) nu
      have TC := TB.same S1
      refine ⟨u, .ref pa, sv, cv, d, g, v, c, f, s, o, rfl, ⟨nv, SqT.of upd_same, TC.n⟩, TC.s_, TC.c_, na, fun r3 HD SD pr => ⟨_, rfl, ?_⟩⟩
      have TD := TC.same SD
      have hpaD := sqT_same SD (sqT_same S1 hpaB)
      have pdp : Dp K HD (.ref pa) (.tuple (ps.map .int)) := .tup hpaD dpI
      have tdp : Td (.tuple (ps.map PyData.int)) 1 20 := (Td.tup (TdA.ints psm)).up (Nat.le_refl _) (by omega)
      have smS : SmQ s := ⟨Sm.of (by have := so.1; omega) (by have := so.2.1; omega), Sm.of (by have := so.2.2.1; omega) (by have := so.2.2.2; omega)⟩
      refine ⟨_, _, _, rfl, pr.dp pdp TD.s_, ((whole.same S1).same SD).dp pdp TD.s_, (sme.pr smS tdp).short (by decide) (by decide), _, rfl, iteF ?_⟩
      clear whole S1 SD TC TB hpaB hpaD pdp tdp pr
      -- early
      obtain ⟨sa, rfl, ss⟩ := id TD.s_
      refine ⟨_, rfl, sa, _, _, _, rfl, rfl, ss, rfl, _, rfl, sa, _, _, _, rfl, rfl, ss, rfl, _, _, rfl, rfl, szTwo', fun e1 n1 => ?_⟩
      have S1 := same_new (o := .tup [.int s.1, .int (s.2 - 1)]) n1
      have TE := TD.same S1
      refine ⟨fun σ H' => ∃ (ev : Addr) (p : Ins) (v2 v6 v7 v8 v10 : Option V), σ = [some (.ref a), some (.ref b), v2, some nv, some (.ref sa), some cv, v6, v7, v8, some (.ref ev), v10] ∧ TurnI K b nv (.ref sa) cv (.ref ea) d g v c f s o H' ∧ SqT K H' ev [.int p.1, .int p.2] ∧ leI s p = false, ?_, ?_⟩
      · have ssE := sqT_same S1 ss
        refine ⟨_, rfl, sa, _, _, _, rfl, rfl, ssE, rfl, rfl, _, rfl, ite_int (fun z => ?_) (fun z => ?_)⟩
        · refine ⟨_, rfl, sa, _, _, _, rfl, rfl, ssE, rfl, _, _, rfl, rfl, szTwo', fun e2 n2 => ?_⟩
          exact ⟨e2, (s.1 - 1, 7), _, _, _, _, _, rfl, TE.same (same_new n2), SqT.of upd_same, decide_eq_false (show ¬ (s.1 < s.1 - 1 ∨ (s.1 = s.1 - 1 ∧ s.2 ≤ 7)) by omega)⟩
        · exact ⟨e1, (s.1, s.2 - 1), _, _, _, _, _, rfl, TE, SqT.of upd_same, decide_eq_false (show ¬ (s.1 < s.1 ∨ (s.1 = s.1 ∧ s.2 ≤ s.2 - 1)) by omega)⟩
      clear n1 S1 TE TD ss
      rintro σ HE ⟨ev, p, v2, v6, v7, v8, v10, rfl, TE, hev, hlt⟩
      refine ⟨3, rfl, by decide, by decide, for_range (n := 3) (fun k σ H' => ∃ (v2 v6 v7 v8 v10 : Option V), σ = [some (.ref a), some (.ref b), v2, some nv, some (.ref sa), some cv, v6, v7, v8, some (.ref ev), v10] ∧ TurnI K b nv (.ref sa) cv (.ref ea) d g v c f s o H' ∧ SqT K H' ev [.int p.1, .int p.2])
        ⟨_, _, _, _, _, rfl, TE, hev⟩ ?_ ?_⟩
      · rintro k σ HF hk ⟨v2, v6, v7, v8, v10, rfl, TF, hevF⟩
        refine ⟨_, rfl, ev, _, _, _, rfl, rfl, hevF, rfl, _, _, rfl, rfl, _, rfl, ite2 (fun _ => ?_) (fun _ => ?_)⟩
        · refine ⟨_, rfl, _, rfl, _, rfl, _, rfl, 0 + k, nv, .ref sa, .ref ev, d, g, v, c, f, s, some p, rfl, TF.n, TF.s_, ⟨ev, rfl, hevF⟩, hlt, fun HG SG => ⟨rfl, _, rfl, ?_⟩⟩
          rw [decide_eq_true rfl]
          exact iteF ⟨_, _, _, _, _, rfl, TF.same SG, sqT_same SG hevF⟩
        · exact ⟨_, _, _, _, _, rfl, TF, hevF⟩
      · rintro σ HF ⟨v2, v6, v7, v8, v10, rfl, TF, hevF⟩
        exact ⟨_, _, _, _, _, _, _, _, _, rfl, TF.B⟩
    · rintro σ H2 ⟨v2, v3, v4, v5, v6, v7, v8, v9, v10, rfl, B2⟩
      exact q _
end
end LB

set_option maxRecDepth 100000
set_option maxHeartbeats 8000000
namespace LB
open PySem PySem.Spec PyProof.Rows L2
open PySem.W (nsIn findIn subIn typeIn mroIn keepIn codeIn hasDictIn isClsIn specialIn takesIn)
/-- the law's def keeps its promise, from what the top has written -/
theorem all_mk {l : PySem.W.OpenLaw} {w : World} {K : PySem.W.Frag} {h : Heap} {mg : Str → Option Value} {fa : Addr} (X : K.In h) (G : h.Ns mainGlobals mg) (hfa : mg "law" = some (.ref fa))
    {fCell fDig fDr fAl fJo fNe fLa fNa fCc fJe fEo fPr fLs fLc fAf fLt fLe fLr fLw F0 fIn fEw fPw fRw fRo fEn fCo fFi C B fI cc cda N0 : Addr} {odCell anCell odDig anDig odDr anDr odAl anAl odJo anJo odNe anNe odLa anLa odNa anNa odCc anCc odJe anJe odEo anEo odPr anPr odLs anLs odLc anLc odAf anAf odLt anLt odLe anLe odLr anLr odLw anLw odIn anIn odEw anEw odPw anPw odRw anRw odRo anRo odEn anEn odCo anCo odFi anFi odI anI ocd cdd : Option Addr} {slCell slDig slDr slAl slJo slNe slLa slNa slCc slJe slEo slPr slLs slLc slAf slLt slLe slLr slLw slIn slEw slPw slRw slRo slEn slCo slFi slI csl ccs : Array (Option Value)} {ocCell kVCell dcCell pmCell cdCell ctCell ocDig kVDig dcDig pmDig cdDig ctDig ocDr kVDr dcDr pmDr cdDr ctDr ocAl kVAl dcAl pmAl cdAl ctAl ocJo kVJo dcJo pmJo cdJo ctJo ocNe kVNe dcNe pmNe cdNe ctNe ocLa kVLa dcLa pmLa cdLa ctLa ocNa kVNa dcNa pmNa cdNa ctNa ocCc kVCc dcCc pmCc cdCc ctCc ocJe kVJe dcJe pmJe cdJe ctJe ocEo kVEo dcEo pmEo cdEo ctEo ocPr kVPr dcPr pmPr cdPr ctPr ocLs kVLs dcLs pmLs cdLs ctLs ocLc kVLc dcLc pmLc cdLc ctLc ocAf kVAf dcAf pmAf cdAf ctAf ocLt kVLt dcLt pmLt cdLt ctLt ocLe kVLe dcLe pmLe cdLe ctLe ocLr kVLr dcLr pmLr cdLr ctLr ocLw kVLw dcLw pmLw cdLw ctLw ocIn kVIn dcIn pmIn cdIn ctIn ocEw kVEw dcEw pmEw cdEw ctEw ocPw kVPw dcPw pmPw cdPw ctPw ocRw kVRw dcRw pmRw cdRw ctRw ocRo kVRo dcRo pmRo cdRo ctRo ocEn kVEn dcEn pmEn cdEn ctEn ocCo kVCo dcCo pmCo cdCo ctCo ocFi kVFi dcFi pmFi cdFi ctFi ocI dcI pmI ctI clc ccl : Value}
    {nm qn file : Str} {bs : List Value} {sn : List Str} {sub : List Value} {ab : Bool} {col : Option Bool} {dd : Option Addr} {m0 m1 m2 m3 m5 : Option Value} {vs : Array Value} {tf : Tok}
    (aCell : nsIn K mainGlobals "_law_cell" = some (some (.ref fCell)))
    (lCell : K.lookup fCell = some ⟨ocCell, odCell, .func (PySem.W.fnOf "_law_cell" "_law_cell" (defArgs sCell) (defBody sCell) (defScope sCell) .none kVCell dcCell pmCell anCell cdCell ctCell), slCell⟩)
    (cCell : codeIn K cdCell "_law_cell" = true)
    (kCell : keepIn K (.ref fCell) = true)
    (aDig : nsIn K mainGlobals "_law_digits" = some (some (.ref fDig)))
    (lDig : K.lookup fDig = some ⟨ocDig, odDig, .func (PySem.W.fnOf "_law_digits" "_law_digits" (defArgs sDigits) (defBody sDigits) (defScope sDigits) .none kVDig dcDig pmDig anDig cdDig ctDig), slDig⟩)
    (cDig : codeIn K cdDig "_law_digits" = true)
    (kDig : keepIn K (.ref fDig) = true)
    (aDr : nsIn K mainGlobals "_law_draw" = some (some (.ref fDr)))
    (lDr : K.lookup fDr = some ⟨ocDr, odDr, .func (PySem.W.fnOf "_law_draw" "_law_draw" (defArgs sDraw) (defBody sDraw) (defScope sDraw) .none kVDr dcDr pmDr anDr cdDr ctDr), slDr⟩)
    (cDr : codeIn K cdDr "_law_draw" = true)
    (kDr : keepIn K (.ref fDr) = true)
    (aAl : nsIn K mainGlobals "_law_alike" = some (some (.ref fAl)))
    (lAl : K.lookup fAl = some ⟨ocAl, odAl, .func (PySem.W.fnOf "_law_alike" "_law_alike" (defArgs sAlike) (defBody sAlike) (defScope sAlike) .none kVAl dcAl pmAl anAl cdAl ctAl), slAl⟩)
    (cAl : codeIn K cdAl "_law_alike" = true)
    (kAl : keepIn K (.ref fAl) = true)
    (aJo : nsIn K mainGlobals "_law_job" = some (some (.ref fJo)))
    (lJo : K.lookup fJo = some ⟨ocJo, odJo, .func (PySem.W.fnOf "_law_job" "_law_job" (defArgs sJob) (defBody sJob) (defScope sJob) .none kVJo dcJo pmJo anJo cdJo ctJo), slJo⟩)
    (cJo : codeIn K cdJo "_law_job" = true)
    (kJo : keepIn K (.ref fJo) = true)
    (aNe : nsIn K mainGlobals "next_instant" = some (some (.ref fNe)))
    (lNe : K.lookup fNe = some ⟨ocNe, odNe, .func (PySem.W.fnOf "next_instant" "next_instant" (defArgs sNext) (defBody sNext) (defScope sNext) .none kVNe dcNe pmNe anNe cdNe ctNe), slNe⟩)
    (cNe : codeIn K cdNe "next_instant" = true)
    (kNe : keepIn K (.ref fNe) = true)
    (aLa : nsIn K mainGlobals "later" = some (some (.ref fLa)))
    (lLa : K.lookup fLa = some ⟨ocLa, odLa, .func (PySem.W.fnOf "later" "later" (defArgs sLater) (defBody sLater) (defScope sLater) .none kVLa dcLa pmLa anLa cdLa ctLa), slLa⟩)
    (cLa : codeIn K cdLa "later" = true)
    (kLa : keepIn K (.ref fLa) = true)
    (aNa : nsIn K mainGlobals "not_after" = some (some (.ref fNa)))
    (lNa : K.lookup fNa = some ⟨ocNa, odNa, .func (PySem.W.fnOf "not_after" "not_after" (defArgs sNotAfter) (defBody sNotAfter) (defScope sNotAfter) .none kVNa dcNa pmNa anNa cdNa ctNa), slNa⟩)
    (cNa : codeIn K cdNa "not_after" = true)
    (kNa : keepIn K (.ref fNa) = true)
    (aCc : nsIn K mainGlobals "check_cancel" = some (some (.ref fCc)))
    (lCc : K.lookup fCc = some ⟨ocCc, odCc, .func (PySem.W.fnOf "check_cancel" "check_cancel" (defArgs sCheckCancel) (defBody sCheckCancel) (defScope sCheckCancel) .none kVCc dcCc pmCc anCc cdCc ctCc), slCc⟩)
    (cCc : codeIn K cdCc "check_cancel" = true)
    (kCc : keepIn K (.ref fCc) = true)
    (aJe : nsIn K mainGlobals "job_end" = some (some (.ref fJe)))
    (lJe : K.lookup fJe = some ⟨ocJe, odJe, .func (PySem.W.fnOf "job_end" "job_end" (defArgs sJobEnd) (defBody sJobEnd) (defScope sJobEnd) .none kVJe dcJe pmJe anJe cdJe ctJe), slJe⟩)
    (cJe : codeIn K cdJe "job_end" = true)
    (kJe : keepIn K (.ref fJe) = true)
    (aEo : nsIn K mainGlobals "end_of" = some (some (.ref fEo)))
    (lEo : K.lookup fEo = some ⟨ocEo, odEo, .func (PySem.W.fnOf "end_of" "end_of" (defArgs sEndOf) (defBody sEndOf) (defScope sEndOf) .none kVEo dcEo pmEo anEo cdEo ctEo), slEo⟩)
    (cEo : codeIn K cdEo "end_of" = true)
    (kEo : keepIn K (.ref fEo) = true)
    (aPr : nsIn K mainGlobals "predict" = some (some (.ref fPr)))
    (lPr : K.lookup fPr = some ⟨ocPr, odPr, .func (PySem.W.fnOf "predict" "predict" (defArgs sPredict) (defBody sPredict) (defScope sPredict) .none kVPr dcPr pmPr anPr cdPr ctPr), slPr⟩)
    (cPr : codeIn K cdPr "predict" = true)
    (kPr : keepIn K (.ref fPr) = true)
    (aLs : nsIn K mainGlobals "_law_start" = some (some (.ref fLs)))
    (lLs : K.lookup fLs = some ⟨ocLs, odLs, .func (PySem.W.fnOf "_law_start" "_law_start" (defArgs sLStart) (defBody sLStart) (defScope sLStart) .none kVLs dcLs pmLs anLs cdLs ctLs), slLs⟩)
    (cLs : codeIn K cdLs "_law_start" = true)
    (kLs : keepIn K (.ref fLs) = true)
    (aLc : nsIn K mainGlobals "_law_cancel" = some (some (.ref fLc)))
    (lLc : K.lookup fLc = some ⟨ocLc, odLc, .func (PySem.W.fnOf "_law_cancel" "_law_cancel" (defArgs sLCancel) (defBody sLCancel) (defScope sLCancel) .none kVLc dcLc pmLc anLc cdLc ctLc), slLc⟩)
    (cLc : codeIn K cdLc "_law_cancel" = true)
    (kLc : keepIn K (.ref fLc) = true)
    (aAf : nsIn K mainGlobals "_law_after" = some (some (.ref fAf)))
    (lAf : K.lookup fAf = some ⟨ocAf, odAf, .func (PySem.W.fnOf "_law_after" "_law_after" (defArgs sLAfter) (defBody sLAfter) (defScope sLAfter) .none kVAf dcAf pmAf anAf cdAf ctAf), slAf⟩)
    (cAf : codeIn K cdAf "_law_after" = true)
    (kAf : keepIn K (.ref fAf) = true)
    (aLt : nsIn K mainGlobals "_law_late" = some (some (.ref fLt)))
    (lLt : K.lookup fLt = some ⟨ocLt, odLt, .func (PySem.W.fnOf "_law_late" "_law_late" (defArgs sLLate) (defBody sLLate) (defScope sLLate) .none kVLt dcLt pmLt anLt cdLt ctLt), slLt⟩)
    (cLt : codeIn K cdLt "_law_late" = true)
    (kLt : keepIn K (.ref fLt) = true)
    (aLe : nsIn K mainGlobals "_law_end" = some (some (.ref fLe)))
    (lLe : K.lookup fLe = some ⟨ocLe, odLe, .func (PySem.W.fnOf "_law_end" "_law_end" (defArgs sLEnd) (defBody sLEnd) (defScope sLEnd) .none kVLe dcLe pmLe anLe cdLe ctLe), slLe⟩)
    (cLe : codeIn K cdLe "_law_end" = true)
    (kLe : keepIn K (.ref fLe) = true)
    (aLr : nsIn K mainGlobals "_law_refused" = some (some (.ref fLr)))
    (lLr : K.lookup fLr = some ⟨ocLr, odLr, .func (PySem.W.fnOf "_law_refused" "_law_refused" (defArgs sLRefused) (defBody sLRefused) (defScope sLRefused) .none kVLr dcLr pmLr anLr cdLr ctLr), slLr⟩)
    (cLr : codeIn K cdLr "_law_refused" = true)
    (kLr : keepIn K (.ref fLr) = true)
    (aLw : nsIn K mainGlobals "law" = some (some (.ref fLw)))
    (lLw : K.lookup fLw = some ⟨ocLw, odLw, .func (PySem.W.fnOf "law" "law" (defArgs sLaw) (defBody sLaw) (defScope sLaw) .none kVLw dcLw pmLw anLw cdLw ctLw), slLw⟩)
    (cLw : codeIn K cdLw "law" = true)
    (kLw : keepIn K (.ref fLw) = true)
    (aF0 : nsIn K mainGlobals "Foresight" = some (some (.ref F0)))
    (pgF0 : PySem.W.plainGet K F0 Str.empty = true)
    (hdF0 : hasDictIn K F0 = true)
    (poF0 : PySem.W.plainOver K F0 = true)
    (saF0 : findIn K (.ref F0) "__setattr__" = some (some (.builtin "object.__setattr__")))
    (mkF0 : PySem.W.makesIn K F0 = true)
    (kpF0 : keepIn K (.ref F0) = true)
    (nF0plan : findIn K (.ref F0) "plan" = some none)
    (nF0known : findIn K (.ref F0) "known" = some none)
    (aIn : findIn K (.ref F0) "__init__" = some (some (.ref fIn)))
    (lIn : K.lookup fIn = some ⟨ocIn, odIn, .func (PySem.W.fnOf "__init__" "Foresight.__init__" (defArgs fsinit) (defBody fsinit) (defScope fsinit) .none kVIn dcIn pmIn anIn cdIn ctIn), slIn⟩)
    (cIn : codeIn K cdIn "Foresight.__init__" = true)
    (kIn : keepIn K (.ref fIn) = true)
    (iIn : PySem.W.isFn K (.ref fIn) = true)
    (aEw : findIn K (.ref F0) "end_whole" = some (some (.ref fEw)))
    (lEw : K.lookup fEw = some ⟨ocEw, odEw, .func (PySem.W.fnOf "end_whole" "Foresight.end_whole" (defArgs fsend_whole) (defBody fsend_whole) (defScope fsend_whole) .none kVEw dcEw pmEw anEw cdEw ctEw), slEw⟩)
    (cEw : codeIn K cdEw "Foresight.end_whole" = true)
    (kEw : keepIn K (.ref fEw) = true)
    (iEw : PySem.W.isFn K (.ref fEw) = true)
    (aPw : findIn K (.ref F0) "predict_whole" = some (some (.ref fPw)))
    (lPw : K.lookup fPw = some ⟨ocPw, odPw, .func (PySem.W.fnOf "predict_whole" "Foresight.predict_whole" (defArgs fspredict_whole) (defBody fspredict_whole) (defScope fspredict_whole) .none kVPw dcPw pmPw anPw cdPw ctPw), slPw⟩)
    (cPw : codeIn K cdPw "Foresight.predict_whole" = true)
    (kPw : keepIn K (.ref fPw) = true)
    (iPw : PySem.W.isFn K (.ref fPw) = true)
    (aRw : findIn K (.ref F0) "rows_whole" = some (some (.ref fRw)))
    (lRw : K.lookup fRw = some ⟨ocRw, odRw, .func (PySem.W.fnOf "rows_whole" "Foresight.rows_whole" (defArgs fsrows_whole) (defBody fsrows_whole) (defScope fsrows_whole) .none kVRw dcRw pmRw anRw cdRw ctRw), slRw⟩)
    (cRw : codeIn K cdRw "Foresight.rows_whole" = true)
    (kRw : keepIn K (.ref fRw) = true)
    (iRw : PySem.W.isFn K (.ref fRw) = true)
    (aRo : findIn K (.ref F0) "rows" = some (some (.ref fRo)))
    (lRo : K.lookup fRo = some ⟨ocRo, odRo, .func (PySem.W.fnOf "rows" "Foresight.rows" (defArgs fsrows) (defBody fsrows) (defScope fsrows) .none kVRo dcRo pmRo anRo cdRo ctRo), slRo⟩)
    (cRo : codeIn K cdRo "Foresight.rows" = true)
    (kRo : keepIn K (.ref fRo) = true)
    (iRo : PySem.W.isFn K (.ref fRo) = true)
    (aEn : findIn K (.ref F0) "end" = some (some (.ref fEn)))
    (lEn : K.lookup fEn = some ⟨ocEn, odEn, .func (PySem.W.fnOf "end" "Foresight.end" (defArgs fsend) (defBody fsend) (defScope fsend) .none kVEn dcEn pmEn anEn cdEn ctEn), slEn⟩)
    (cEn : codeIn K cdEn "Foresight.end" = true)
    (kEn : keepIn K (.ref fEn) = true)
    (iEn : PySem.W.isFn K (.ref fEn) = true)
    (aCo : findIn K (.ref F0) "course" = some (some (.ref fCo)))
    (lCo : K.lookup fCo = some ⟨ocCo, odCo, .func (PySem.W.fnOf "course" "Foresight.course" (defArgs fscourse) (defBody fscourse) (defScope fscourse) .none kVCo dcCo pmCo anCo cdCo ctCo), slCo⟩)
    (cCo : codeIn K cdCo "Foresight.course" = true)
    (kCo : keepIn K (.ref fCo) = true)
    (iCo : PySem.W.isFn K (.ref fCo) = true)
    (aFi : findIn K (.ref F0) "find_course" = some (some (.ref fFi)))
    (lFi : K.lookup fFi = some ⟨ocFi, odFi, .func (PySem.W.fnOf "find_course" "Foresight.find_course" (defArgs fsfind_course) (defBody fsfind_course) (defScope fsfind_course) .none kVFi dcFi pmFi anFi cdFi ctFi), slFi⟩)
    (cFi : codeIn K cdFi "Foresight.find_course" = true)
    (kFi : keepIn K (.ref fFi) = true)
    (iFi : PySem.W.isFn K (.ref fFi) = true)
    (z0 : nsIn K mainGlobals "len" = some none)
    (z1 : nsIn K mainGlobals "range" = some none)
    (z2 : nsIn K mainGlobals "int" = some none)
    (z3 : nsIn K mainGlobals "repr" = some none)
    (z4 : nsIn K mainGlobals "tuple" = some none)
    (z5 : nsIn K mainGlobals "min" = some none)
    (z6 : nsIn K mainGlobals "max" = some none)
    (z7 : nsIn K mainGlobals "sum" = some none)
    (aC : nsIn K mainGlobals "OutOfRange" = some (some (.ref C)))
    (aB : nsIn K mainGlobals "ForetoldError" = some (some (.ref B)))
    (xL : K.lookup C = some (excClassObj nm qn C N0 bs (.ref B :: veMro) true sn sub ab col dd m0 m1 m2 m3 m5 "ValueError.__new__"))
    (sa : findIn K (.ref C) "__setattr__" = some (some (.builtin "object.__setattr__")))
    (ga : findIn K (.ref C) "__getattribute__" = some (some (.builtin "BaseException.__getattribute__")))
    (gg : findIn K (.ref C) "__getattr__" = some none)
    (gn : findIn K (.ref C) "name" = some none)
    (iC : findIn K (.ref C) "__init__" = some (some (.ref fI)))
    (tI : typeIn K (.ref fI) = some (.type "function"))
    (kC : keepIn K (.ref C) = true)
    (eC : subIn K (.ref C) (.type "BaseException") = some true)
    (vC : subIn K (.ref C) (.type "ValueError") = some true)
    (tC : typeIn K (.ref C) = some (.type "type"))
    (hC : hasDictIn K C = true)
    (mC : mroIn K C (.ref C) = some true)
    (up : PySem.W.ks_superIn K C C "__init__" = some (some (.builtin "ValueError.__init__")))
    (xM : PySem.W.excInitIn K C veMro "ValueError.__new__" = true)
    (op : nsIn K cStatics "thirdparty.any" = some none)
    (nS : nsIn K mainGlobals "super" = some none)
    (lI : K.lookup fI = some ⟨ocI, odI, .func (PySem.W.ksFn "__init__" "OutOfRange.__init__" (eA ⟨6, 17, 6, 21⟩ ⟨6, 23, 6, 27⟩) (eB " is out of range" 0 ⟨7, 8, 7, 13⟩ ⟨7, 8, 7, 15⟩ ⟨7, 8, 7, 24⟩ ⟨7, 28, 7, 32⟩ ⟨7, 27, 7, 33⟩ ⟨7, 33, 7, 49⟩ ⟨7, 25, 7, 50⟩ ⟨7, 8, 7, 51⟩ ⟨7, 8, 7, 51⟩ ⟨8, 8, 8, 12⟩ ⟨8, 8, 8, 17⟩ ⟨8, 20, 8, 24⟩ ⟨8, 8, 8, 24⟩) eS .none .none dcI pmI anI (.ref cda) ctI cc), slI⟩)
    (cI : codeIn K (.ref cda) "OutOfRange.__init__" = true)
    (lc : K.lookup cc = some ⟨clc, ocd, .cell (some (.ref C)), csl⟩)
    (ld : K.lookup cda = some ⟨ccl, cdd, .fields vs, ccs⟩)
    (lv : vs[2]? = some (.str file tf))
    (lf : ((l.prog.main.file : Str) == file) = true)
    (lt : (l.prog.main.scope.names.lookup ("super" : Str)).isSome = false)
    (sC : subIn K (.ref C) (.ref C) = some true) :
    ∃ fd : FuncData, (∀ (s : Shared) (u : Value), BindsTo s fd ⟨[u], []⟩ [("script", u)]) ∧ ∀ base : Heap, K.In base → base.Ns mainGlobals mg → FnG l.prog w K mg base CX0 13 fa fd ["script"] (spLaw K) := by
  have FCell := fun_mk (st := sCell) lCell cCell kCell
  have bCell := FCell.binds (ps := ["script", "k"]) fun _ _ _ _ _ _ us hl => match us, hl with | [_, _], _ => rfl
  have mCell := PySem.W.mg_of X G aCell
  have FDig := fun_mk (st := sDigits) lDig cDig kDig
  have bDig := FDig.binds (ps := ["script", "first", "last"]) fun _ _ _ _ _ _ us hl => match us, hl with | [_, _, _], _ => rfl
  have mDig := PySem.W.mg_of X G aDig
  have FDr := fun_mk (st := sDraw) lDr cDr kDr
  have bDr := FDr.binds (ps := ["box", "many"]) fun _ _ _ _ _ _ us hl => match us, hl with | [_, _], _ => rfl
  have mDr := PySem.W.mg_of X G aDr
  have FAl := fun_mk (st := sAlike) lAl cAl kAl
  have bAl := FAl.binds (ps := ["one", "two"]) fun _ _ _ _ _ _ us hl => match us, hl with | [_, _], _ => rfl
  have mAl := PySem.W.mg_of X G aAl
  have FJo := fun_mk (st := sJob) lJo cJo kJo
  have bJo := FJo.binds (ps := ["box"]) fun _ _ _ _ _ _ us hl => match us, hl with | [_], _ => rfl
  have mJo := PySem.W.mg_of X G aJo
  have FNe := fun_mk (st := sNext) lNe cNe kNe
  have bNe := FNe.binds (ps := ["instant"]) fun _ _ _ _ _ _ us hl => match us, hl with | [_], _ => rfl
  have mNe := PySem.W.mg_of X G aNe
  have FLa := fun_mk (st := sLater) lLa cLa kLa
  have bLa := FLa.binds (ps := ["instant", "ticks"]) fun _ _ _ _ _ _ us hl => match us, hl with | [_, _], _ => rfl
  have mLa := PySem.W.mg_of X G aLa
  have FNa := fun_mk (st := sNotAfter) lNa cNa kNa
  have bNa := FNa.binds (ps := ["instant", "cancel"]) fun _ _ _ _ _ _ us hl => match us, hl with | [_, _], _ => rfl
  have mNa := PySem.W.mg_of X G aNa
  have FCc := fun_mk (st := sCheckCancel) lCc cCc kCc
  have bCc := FCc.binds (ps := ["start", "cancel"]) fun _ _ _ _ _ _ us hl => match us, hl with | [_, _], _ => rfl
  have mCc := PySem.W.mg_of X G aCc
  have FJe := fun_mk (st := sJobEnd) lJe cJe kJe
  have bJe := FJe.binds (ps := ["node", "start", "cancel"]) fun _ _ _ _ _ _ us hl => match us, hl with | [_, _, _], _ => rfl
  have mJe := PySem.W.mg_of X G aJe
  have FEo := fun_mk (st := sEndOf) lEo cEo kEo
  have bEo := FEo.binds (ps := ["plan", "start", "cancel"]) fun _ _ _ _ _ _ us hl => match us, hl with | [_, _, _], _ => rfl
  have mEo := PySem.W.mg_of X G aEo
  have FPr := fun_mk (st := sPredict) lPr cPr kPr
  have bPr := FPr.binds (ps := ["plan", "path", "start", "cancel"]) fun _ _ _ _ _ _ us hl => match us, hl with | [_, _, _, _], _ => rfl
  have mPr := PySem.W.mg_of X G aPr
  have FLs := fun_mk (st := sLStart) lLs cLs kLs
  have bLs := FLs.binds (ps := ["box"]) fun _ _ _ _ _ _ us hl => match us, hl with | [_], _ => rfl
  have mLs := PySem.W.mg_of X G aLs
  have FLc := fun_mk (st := sLCancel) lLc cLc kLc
  have bLc := FLc.binds (ps := ["box", "plan", "start"]) fun _ _ _ _ _ _ us hl => match us, hl with | [_, _, _], _ => rfl
  have mLc := PySem.W.mg_of X G aLc
  have FAf := fun_mk (st := sLAfter) lAf cAf kAf
  have bAf := FAf.binds (ps := ["instant", "ticks"]) fun _ _ _ _ _ _ us hl => match us, hl with | [_, _], _ => rfl
  have mAf := PySem.W.mg_of X G aAf
  have FLt := fun_mk (st := sLLate) lLt cLt kLt
  have bLt := FLt.binds (ps := ["instant", "cancel"]) fun _ _ _ _ _ _ us hl => match us, hl with | [_, _], _ => rfl
  have mLt := PySem.W.mg_of X G aLt
  have FLe := fun_mk (st := sLEnd) lLe cLe kLe
  have bLe := FLe.binds (ps := ["job", "start", "cancel"]) fun _ _ _ _ _ _ us hl => match us, hl with | [_, _, _], _ => rfl
  have mLe := PySem.W.mg_of X G aLe
  have FLr := fun_mk (st := sLRefused) lLr cLr kLr
  have bLr := FLr.binds (ps := ["which", "job", "start", "cancel"]) fun _ _ _ _ _ _ us hl => match us, hl with | [_, _, _, _], _ => rfl
  have mLr := PySem.W.mg_of X G aLr
  have FLw := fun_mk (st := sLaw) lLw cLw kLw
  have clF0 : Cls K F0 := ⟨pgF0, hdF0, poF0, saF0⟩
  have mgF0 := PySem.W.mg_of X G aF0
  have FIn := fun_mk (st := fsinit) lIn cIn kIn
  have bIn := FIn.binds (ps := ["self", "plan"]) fun _ _ _ _ _ _ us hl => match us, hl with | [_, _], _ => rfl
  have MIn : Mk K F0 fIn := ⟨mkF0, aIn, iIn, kpF0⟩
  have FEw := fun_mk (st := fsend_whole) lEw cEw kEw
  have bEw := FEw.binds (ps := ["self", "start", "cancel"]) fun _ _ _ _ _ _ us hl => match us, hl with | [_, _, _], _ => rfl
  have hEw : Meth K F0 "end_whole" fEw := ⟨aEw, iEw, kEw⟩
  have FPw := fun_mk (st := fspredict_whole) lPw cPw kPw
  have bPw := FPw.binds (ps := ["self", "path", "start", "cancel"]) fun _ _ _ _ _ _ us hl => match us, hl with | [_, _, _, _], _ => rfl
  have hPw : Meth K F0 "predict_whole" fPw := ⟨aPw, iPw, kPw⟩
  have FRw := fun_mk (st := fsrows_whole) lRw cRw kRw
  have bRw := FRw.binds (ps := ["self", "path", "start", "cancel"]) fun _ _ _ _ _ _ us hl => match us, hl with | [_, _, _, _], _ => rfl
  have hRw : Meth K F0 "rows_whole" fRw := ⟨aRw, iRw, kRw⟩
  have FRo := fun_mk (st := fsrows) lRo cRo kRo
  have bRo := FRo.binds (ps := ["self", "place", "path", "start", "cancel"]) fun _ _ _ _ _ _ us hl => match us, hl with | [_, _, _, _, _], _ => rfl
  have hRo : Meth K F0 "rows" fRo := ⟨aRo, iRo, kRo⟩
  have FEn := fun_mk (st := fsend) lEn cEn kEn
  have bEn := FEn.binds (ps := ["self", "place", "start", "cancel"]) fun _ _ _ _ _ _ us hl => match us, hl with | [_, _, _, _], _ => rfl
  have hEn : Meth K F0 "end" fEn := ⟨aEn, iEn, kEn⟩
  have FCo := fun_mk (st := fscourse) lCo cCo kCo
  have bCo := FCo.binds (ps := ["self", "place", "start", "cancel"]) fun _ _ _ _ _ _ us hl => match us, hl with | [_, _, _, _], _ => rfl
  have hCo : Meth K F0 "course" fCo := ⟨aCo, iCo, kCo⟩
  have FFi := fun_mk (st := fsfind_course) lFi cFi kFi
  have bFi := FFi.binds (ps := ["self", "node", "start", "cancel"]) fun _ _ _ _ _ _ us hl => match us, hl with | [_, _, _, _], _ => rfl
  have hFi : Meth K F0 "find_course" fFi := ⟨aFi, iFi, kFi⟩
  have n0 := PySem.W.mg_none_of X G z0
  have n1 := PySem.W.mg_none_of X G z1
  have n2 := PySem.W.mg_none_of X G z2
  have n3 := PySem.W.mg_none_of X G z3
  have n4 := PySem.W.mg_none_of X G z4
  have n5 := PySem.W.mg_none_of X G z5
  have n6 := PySem.W.mg_none_of X G z6
  have n7 := PySem.W.mg_none_of X G z7
  have low : Oor K mg l.prog "OutOfRange" C fI cc cda :=
    { gC := PySem.W.mg_of X G aC, cls := ⟨nm, qn, N0, bs, _, sn, sub, ab, col, dd, m0, m1, m2, m3, m5, xL, by rfl⟩, sa := sa, ga := ga, gg := gg, noN := gn, iC := iC, tC := tI, kC := kC, exC := eC, veC := vC, tyC := tC, hdC := hC, me := mC, up := up, made := xM, op := op,
      mgS := PySem.W.mg_none_of X G nS, top := lt, cell := ⟨_, _, _, lc⟩, code := ⟨_, _, _, _, _, _, ld, lv, lf⟩, fn := ⟨_, _, _, _, _, _, _, _, _, _, _, _, _, _, _, _, _, _, _, _, _, _, _, _, _, lI, cI, by decide +kernel, rfl⟩ }
  have exC := PySem.W.exm_ref eC hC tC sC
  have M0 : Names mg := ⟨n0, n1, n2, n3⟩
  have M : NamesP mg := ⟨M0, n4, n5, n6, n7⟩
  have T : ClsF K F0 := ⟨clF0, nF0plan, nF0known⟩
  have e := hfa.symm.trans (PySem.W.mg_of X G aLw)
  cases e
  refine ⟨_, fun s v => .of_eq rfl, fun base _ _ => ok_law FLw ?_⟩
  have GC : FnOk l.prog w K mg base (L2.CX l.prog w) 3 fCc _ ["start", "cancel"] (spCheckC K C) := ok_checkc FCc low FNa mNa bNa
  have GJ : FnOk l.prog w K mg base (L2.CX l.prog w) 4 fJe _ ["node", "start", "cancel"] (spJobEnd K C) := ok_jobend FJe low FNa mNa bNa FCc mCc bCc FLa mLa bLa FNe mNe bNe
  have GI : FnOk l.prog w K mg base CX0 1 fIn _ ["self", "plan"] (spInit K w F0) := ok_init FIn T
  have GFi : FnOk l.prog w K mg base CX0 5 fFi _ ["self", "node", "start", "cancel"] (spFind K) := ok_find FFi GJ mJe kJe bJe
  have GCo : FnOk l.prog w K mg base CX0 6 fCo _ ["self", "place", "start", "cancel"] (spCourse K w F0 (CoAt K)) := ok_course FCo T GFi hFi bFi
  have GEn : FnOk l.prog w K mg base CX0 7 fEn _ ["self", "place", "start", "cancel"] (spCourse K w F0 (EnAt K)) := ok_end FEn T GCo hCo bCo
  have GEw : FnOk l.prog w K mg base CX0 8 fEw _ ["self", "start", "cancel"] (spWhole' K w F0 (EnAt K)) := ok_endw FEw M0 T GEn hEn bEn
  have GRo : FnOk l.prog w K mg base CX0 7 fRo _ ["self", "place", "path", "start", "cancel"] (spRows K w F0 [.int 0]) := ok_rows FRo T GCo hCo bCo
  have GRw : FnOk l.prog w K mg base CX0 8 fRw _ ["self", "path", "start", "cancel"] (spRows K w F0 []) := ok_rowsw FRw M0 T GRo hRo bRo
  have GPw : FnOk l.prog w K mg base CX0 9 fPw _ ["self", "path", "start", "cancel"] (spPred K w F0) := ok_predw FPw M T GRw hRw bRw GEw hEw bEw
  have GEo : FnOk l.prog w K mg base (L2.CX l.prog w) 9 fEo _ ["plan", "start", "cancel"] (spEndOf K C) := ok_endof FEo T GC mCc kCc bCc GI MIn mgF0 bIn GEw hEw bEw
  have GPr : FnOk l.prog w K mg base (L2.CX l.prog w) 10 fPr _ ["plan", "path", "start", "cancel"] (spPredict K C) := ok_predict FPr T GC mCc kCc bCc GI MIn mgF0 bIn GPw hPw bPw
  have GJ0 : FnOk l.prog w K mg base CX0 4 fJe _ ["node", "start", "cancel"] (spJobEnd0 K) := fn_calm GJ fun vs H Q E ⟨nv, x, y, d, g, v, c, f, s, o, e, h1, h2, h3, h4, q⟩ => ⟨nv, x, y, d, g, v, c, f, s, o, e, h1, h2, h3, fun _ => q, fun z => absurd (z.symm.trans h4) (by decide)⟩
  have GE0 : FnOk l.prog w K mg base CX0 9 fEo _ ["plan", "start", "cancel"] (spEndOf0 K) := fn_calm GEo fun vs H Q E ⟨pl, x, y, d, g, v, c, f, s, o, e, h1, h2, h3, h4, q⟩ => ⟨pl, x, y, d, g, v, c, f, s, o, e, h1, h2, h3, fun _ => q, fun z => absurd (z.symm.trans h4) (by decide)⟩
  have GP0 : FnOk l.prog w K mg base CX0 10 fPr _ ["plan", "path", "start", "cancel"] (spPredict0 K) := fn_calm GPr fun vs H Q E ⟨pl, pp, x, y, d, g, v, c, f, s, o, e, h1, h2, h3, h4, q⟩ => ⟨pl, pp, x, y, d, g, v, c, f, s, o, e, h1, h2, h3, fun _ => q, fun z => absurd (z.symm.trans h4) (by decide)⟩
  exact
    { D := ⟨_, _, ok_draw FDr M0, mDr, kDr, bDr⟩, G := ⟨_, _, ok_digits FDig M0 FCell mCell bCell, mDig, kDig, bDig⟩, A := ⟨_, _, ok_alike FAl M0, mAl, kAl, bAl⟩, J := ⟨_, _, ok_job FJo M0 FDr mDr bDr, mJo, kJo, bJo⟩,
      S := ⟨_, _, ok_lstart FLs M0 FDr mDr bDr, mLs, kLs, bLs⟩, C := ⟨_, _, ok_lcan FLc M FDr mDr bDr GP0 mPr kPr bPr, mLc, kLc, bLc⟩, E := ⟨_, _, ok_lend FLe FAf mAf bAf FLt mLt bLt, mLe, kLe, bLe⟩,
      R := ⟨_, _, ok_lref FLr low exC GJ mJe kJe bJe GEo mEo kEo bEo GPr mPr kPr bPr, mLr, kLr, bLr⟩, X := ⟨_, _, GJ0, mJe, kJe, bJe⟩, Y := ⟨_, _, GE0, mEo, kEo, bEo⟩, Z := ⟨_, _, GP0, mPr, kPr, bPr⟩, names := M }
end LB

open PySem PySem.W PyProof.Rows
set_option maxRecDepth 100000 in
set_option maxHeartbeats 0 in
theorem PySem.Challenge.cw_asforetold_k11_jobs_foretold_holds : PySem.Challenge.rw_asforetold_k11_jobs_foretold.Holds := by
  w_on; o_law; k_head; (case hw => w_witness2)
  k_fill
  refine LB.walk_free (l := PySem.Challenge.rw_asforetold_k11_jobs_foretold) (n := 63) (k := 13) (x := "script") (CX := L2.CX0) (sp := LB.spLaw) rfl (by decide) rfl ⟨rfl, by decide, by decide⟩ (fun w h Y => PySem.W.km_in_of Y) ?F (fun K H a ns hl _ hS => ⟨a, ns, rfl, hS, fun _ => rfl⟩) fun _ _ _ _ z => z
  case F =>
    intro w mg fa h KX G hmg
    refine' LB.all_mk KX G hmg ?aCell ?lCell ?cCell ?kCell ?aDig ?lDig ?cDig ?kDig ?aDr ?lDr ?cDr ?kDr ?aAl ?lAl ?cAl ?kAl ?aJo ?lJo ?cJo ?kJo ?aNe ?lNe ?cNe ?kNe ?aLa ?lLa ?cLa ?kLa ?aNa ?lNa ?cNa ?kNa ?aCc ?lCc ?cCc ?kCc ?aJe ?lJe ?cJe ?kJe ?aEo ?lEo ?cEo ?kEo ?aPr ?lPr ?cPr ?kPr ?aLs ?lLs ?cLs ?kLs ?aLc ?lLc ?cLc ?kLc ?aAf ?lAf ?cAf ?kAf ?aLt ?lLt ?cLt ?kLt ?aLe ?lLe ?cLe ?kLe ?aLr ?lLr ?cLr ?kLr ?aLw ?lLw ?cLw ?kLw ?aF0 ?pgF0 ?hdF0 ?poF0 ?saF0 ?mkF0 ?kpF0 ?nF0plan ?nF0known ?aIn ?lIn ?cIn ?kIn ?iIn ?aEw ?lEw ?cEw ?kEw ?iEw ?aPw ?lPw ?cPw ?kPw ?iPw ?aRw ?lRw ?cRw ?kRw ?iRw ?aRo ?lRo ?cRo ?kRo ?iRo ?aEn ?lEn ?cEn ?kEn ?iEn ?aCo ?lCo ?cCo ?kCo ?iCo ?aFi ?lFi ?cFi ?kFi ?iFi ?z0 ?z1 ?z2 ?z3 ?z4 ?z5 ?z6 ?z7 ?aC ?aB ?xL ?sa ?ga ?gg ?gn ?iC ?tI ?kC ?eC ?vC ?tC ?hC ?mC ?up ?xM ?op ?nS ?lI ?cI ?lc ?ld ?lv ?lf ?lt ?sC
    (case aCell => k_is)
    (case lCell => k_is)
    (case cCell => k_is)
    (case kCell => k_is)
    (case aDig => k_is)
    (case lDig => k_is)
    (case cDig => k_is)
    (case kDig => k_is)
    (case aDr => k_is)
    (case lDr => k_is)
    (case cDr => k_is)
    (case kDr => k_is)
    (case aAl => k_is)
    (case lAl => k_is)
    (case cAl => k_is)
    (case kAl => k_is)
    (case aJo => k_is)
    (case lJo => k_is)
    (case cJo => k_is)
    (case kJo => k_is)
    (case aNe => k_is)
    (case lNe => k_is)
    (case cNe => k_is)
    (case kNe => k_is)
    (case aLa => k_is)
    (case lLa => k_is)
    (case cLa => k_is)
    (case kLa => k_is)
    (case aNa => k_is)
    (case lNa => k_is)
    (case cNa => k_is)
    (case kNa => k_is)
    (case aCc => k_is)
    (case lCc => k_is)
    (case cCc => k_is)
    (case kCc => k_is)
    (case aJe => k_is)
    (case lJe => k_is)
    (case cJe => k_is)
    (case kJe => k_is)
    (case aEo => k_is)
    (case lEo => k_is)
    (case cEo => k_is)
    (case kEo => k_is)
    (case aPr => k_is)
    (case lPr => k_is)
    (case cPr => k_is)
    (case kPr => k_is)
    (case aLs => k_is)
    (case lLs => k_is)
    (case cLs => k_is)
    (case kLs => k_is)
    (case aLc => k_is)
    (case lLc => k_is)
    (case cLc => k_is)
    (case kLc => k_is)
    (case aAf => k_is)
    (case lAf => k_is)
    (case cAf => k_is)
    (case kAf => k_is)
    (case aLt => k_is)
    (case lLt => k_is)
    (case cLt => k_is)
    (case kLt => k_is)
    (case aLe => k_is)
    (case lLe => k_is)
    (case cLe => k_is)
    (case kLe => k_is)
    (case aLr => k_is)
    (case lLr => k_is)
    (case cLr => k_is)
    (case kLr => k_is)
    (case aLw => k_is)
    (case lLw => k_is)
    (case cLw => k_is)
    (case kLw => k_is)
    (case aF0 => k_is)
    (case pgF0 => k_is)
    (case hdF0 => k_is)
    (case poF0 => k_is)
    (case saF0 => k_is)
    (case mkF0 => k_is)
    (case kpF0 => k_is)
    (case nF0plan => k_is)
    (case nF0known => k_is)
    (case aIn => k_is)
    (case lIn => k_is)
    (case cIn => k_is)
    (case kIn => k_is)
    (case iIn => k_is)
    (case aEw => k_is)
    (case lEw => k_is)
    (case cEw => k_is)
    (case kEw => k_is)
    (case iEw => k_is)
    (case aPw => k_is)
    (case lPw => k_is)
    (case cPw => k_is)
    (case kPw => k_is)
    (case iPw => k_is)
    (case aRw => k_is)
    (case lRw => k_is)
    (case cRw => k_is)
    (case kRw => k_is)
    (case iRw => k_is)
    (case aRo => k_is)
    (case lRo => k_is)
    (case cRo => k_is)
    (case kRo => k_is)
    (case iRo => k_is)
    (case aEn => k_is)
    (case lEn => k_is)
    (case cEn => k_is)
    (case kEn => k_is)
    (case iEn => k_is)
    (case aCo => k_is)
    (case lCo => k_is)
    (case cCo => k_is)
    (case kCo => k_is)
    (case iCo => k_is)
    (case aFi => k_is)
    (case lFi => k_is)
    (case cFi => k_is)
    (case kFi => k_is)
    (case iFi => k_is)
    (case z0 => k_is)
    (case z1 => k_is)
    (case z2 => k_is)
    (case z3 => k_is)
    (case z4 => k_is)
    (case z5 => k_is)
    (case z6 => k_is)
    (case z7 => k_is)
    (case aC => k_is)
    (case aB => k_is)
    (case xL => k_is)
    (case sa => k_is)
    (case ga => k_is)
    (case gg => k_is)
    (case gn => k_is)
    (case iC => k_is)
    (case tI => k_is)
    (case kC => k_is)
    (case eC => k_is)
    (case vC => k_is)
    (case tC => k_is)
    (case hC => k_is)
    (case mC => k_is)
    (case up => ks_is)
    (case xM => kx_is)
    (case op => k_is)
    (case nS => k_is)
    (case lI => k_is)
    (case cI => k_is)
    (case lc => k_is)
    (case ld => k_is)
    (case lv => rfl)
    (case lf => (first | rfl | decide +kernel | kernel_rfl))
    (case lt => (first | rfl | decide +kernel | kernel_rfl))
    (case sC => k_is)

