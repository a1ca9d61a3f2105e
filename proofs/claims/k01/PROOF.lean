import PyProof.Rows.All
import Wide.All
import OpenK.AllK
import Wide.FinOn
import HandS.ForExc
import HandS.EndBits
import HandS.Wide
import HandS.TupLe
import HandS.ExcSuper
import HandS.ExcIs
import KE.KExcSuper
import KE.KExcIs
import HandS.CallSlots
import HandS.Defaults
import HandS.Codes
import KE.KExcLine
import PySem.Challenge.RW_asforetold_k01_instants
set_option Elab.async false
set_option linter.all false
set_option maxRecDepth 100000
set_option maxHeartbeats 2000000
namespace LB
open PySem PySem.Spec PyProof.Rows L2
/-! ### defs that are called where no repr is under way -/
def Free (A : Around) : Prop := A.guards = some []
/-- as a def's promise, but told of calls from places at which no repr is under way alone -/
structure FnG (P : Program) (w : World) (K : PySem.W.Frag) (mg : Str → Option Value) (base : Heap) (CX : CXT) (k : Nat) (f : Addr) (fd : FuncData) (ps : List Str) (sp : Sp) : Prop where
  many : ∀ xs H Q E, sp xs H Q E → xs.length = ps.length
  goes : ∀ (A : Around) (fr : List Env) (s : Shared) (H : Hp) (a : Args) (us : List Value) (xs : List V) (Q : VK) (E : XK), Free A → Room k A → Env0 P w K mg base A fr s H →
    BindsTo s fd a (ps.zip us) → Vals xs us → sp xs H Q E → codeAny (model P w) A (.call (.ref f) a) (CR CX fr P w H s Q E) s
theorem FnG.ofOk {P : Program} {w : World} {K : PySem.W.Frag} {mg : Str → Option Value} {base : Heap} {CX : CXT} {k : Nat} {f : Addr} {fd : FuncData} {ps : List Str} {sp : Sp} (F : FnOk P w K mg base CX k f fd ps sp) : FnG P w K mg base CX k f fd ps sp :=
  ⟨F.len, fun A fr s H a us xs Q E _ => F.run A fr s H a us xs Q E⟩
theorem FnG.up {P : Program} {w : World} {K : PySem.W.Frag} {mg : Str → Option Value} {base : Heap} {CX : CXT} {j k : Nat} {f : Addr} {fd : FuncData} {ps : List Str} {sp : Sp} (F : FnG P w K mg base CX j f fd ps sp) (h : j ≤ k) : FnG P w K mg base CX k f fd ps sp :=
  ⟨F.many, fun A fr s H a us xs Q E g r => F.goes A fr s H a us xs Q E g (r.mono h)⟩
theorem Free.deeper {A : Around} (g : Free A) (env : Env) : Free (A.deeper env) := by
  first
    | exact g
    | (unfold Free at *; simpa [Around.deeper] using g)
/-- by the body, as fn_of -/
theorem FnG.by_body {CX : CXT} {P : Program} {w : World} {K : PySem.W.Frag} {mg : Str → Option Value} {base : Heap} {k : Nat} {f : Addr} {x q : Str} {pa : Arguments} {bd : List Stmt} {sc : Scope} {v1 v2 v3 v4 v5 v6 v7 : Value} {a1 a2 : Option Addr}
    {sl : Array (Option Value)} {N ps : List Str} {sp : Sp} (at_ : K.lookup f = some ⟨v7, a2, .func (PySem.W.fnOf x q pa bd sc v1 v2 v3 v4 a1 v5 v6), sl⟩) (code : PySem.W.codeIn K v5 q = true) (S : FnScope N ps sc)
    (many : ∀ xs H Q E, sp xs H Q E → xs.length = ps.length)
    (body : ∀ (A : Around) (fr : List Env) (s : Shared) (H : Hp) (xs : List V) (Q : VK) (E : XK), Free (A.deeper (envOfC q sc s.heap.objs.size f v5)) → Room k (A.deeper (envOfC q sc s.heap.objs.size f v5)) → sp xs H Q E →
      ∃ t, PSs (cxOf CX P w K mg base N q sc f v5 A fr s H E) bd t ∧ t { nx := fun _ H' => Q .non H', rt := Q } (start N xs) H) :
    FnG P w K mg base CX (k + 1) f (PySem.W.fnOf x q pa bd sc v1 v2 v3 v4 a1 v5 v6) ps sp := by
  constructor
  · exact many
  intro A fr s H a us xs Q E g room e0 bound vals want
  have kin : K.In s.heap := e0.mod.kin.keeps fun b o z => (e0.bs b o z).1
  have nolim : s.heap.NoLimit := e0.mod.nolimit.keeps fun b o z => (e0.bs b o z).1
  have len := many _ _ _ _ want
  obtain ⟨t, derived, reads⟩ := body A fr s H xs Q E (g.deeper _) (room.deeper _) want
  have kinds : ∀ y ∈ ps.zip us, sc.names.lookup y.1 = some .local ∨ (sc.names.lookup y.1 = some .cell ∧ ((cellsFrom (s.heap.objs.size + 1) sc.names []).lookup y.1).isSome = true) := by
    rintro ⟨n, v⟩ hy
    cases S.par n (List.of_mem_zip hy).1 with
    | inl z => exact .inl z
    | inr z => exact .inr ⟨z, PySem.W.cellsFrom_some _ _ _ (.inl z)⟩
  refine codeAny_call_function room.depth (kin _ _ at_) rfl S.co S.gen rfl (PySem.W.codeRec_of kin code) (bound _ _ _ _ ?_)
  refine wpAny_newFunctionEnv_cells S.kind kinds ?_
  intro env he s1 into
  subst he
  refine ⟨nolim.keeps into.toInCall.keep, codeAny_func ?_⟩
  have I := inv_start (CX := CX) (E := E) S room.hd e0 len vals into
  refine wpAny_mono (derived.run [] s1 (start N xs) H _ I reads) ?_ (fun _ _ z => z)
  intro fl s2 z
  cases fl with
  | next =>
    obtain ⟨σ2, H2, J, q⟩ := z
    exact ⟨.non, H2, J.os, J.bare, J.base, J.hok, rfl, q⟩
  | ret u =>
    obtain ⟨v, σ2, H2, J, r, q⟩ := z
    exact ⟨v, H2, J.os, J.bare, J.base, J.hok, r, q⟩
  | brk =>
    obtain ⟨_, _, _, q⟩ := z
    exact q.elim
  | cont =>
    obtain ⟨_, _, _, q⟩ := z
    exact q.elim
theorem FnG.of_fun {P : Program} {w : World} {K : PySem.W.Frag} {mg : Str → Option Value} {base : Heap} {x q : Str} {st : Stmt} {f : Addr} {fd : FuncData} {N ps : List Str} {k : Nat} {sp : Sp} (F : Fun K x q st f fd) (S : FnScope N ps (defScope st)) (many : ∀ xs H Q E, sp xs H Q E → xs.length = ps.length)
    (body : ∀ (cdv : Value) (A : Around) (fr : List Env) (s : Shared) (H : Hp) (xs : List V) (Q : VK) (E : XK), Free (A.deeper (envOfC q (defScope st) s.heap.objs.size f cdv)) → Room k (A.deeper (envOfC q (defScope st) s.heap.objs.size f cdv)) → sp xs H Q E →
      ∃ t, PSs (cxOf CX0 P w K mg base N q (defScope st) f cdv A fr s H E).nox (defBody st) t ∧ t { nx := fun _ H' => Q .non H', rt := Q } (start N xs) H) : FnG P w K mg base CX0 (k + 1) f fd ps sp := by
  obtain ⟨v7, a2, v2, v3, v4, a1, v5, v6, sl, rfl, at_, code⟩ := F.ex
  refine FnG.by_body at_ code S many ?_
  intro A fr s H xs Q E g r want
  obtain ⟨t, h, q⟩ := body v5 A fr s H xs Q E g r want
  exact ⟨t, h.nox, q⟩
section
variable {X : Cx} {CX : CXT} {k : Nat} {f : Addr} {fd : FuncData} {ps : List Str} {sp : Sp} {dvs : List V} {ds : List Value} {E : XK} {x : Str} {p pos : Pos} {e : Expr} {es : List Expr} {t : TA}
/-- f(e, ..), f such a def -/
theorem pe_callF (g : Free X.A) (F : FnG X.prog X.w X.K X.mg X.base CX k f fd ps sp) (hr : Room k X.A) (hg : Gl X x) (hm : X.mg x = some (.ref f)) (hk : PySem.W.keepIn X.K (.ref f) = true) (hb : Binds X.K fd ps ds) (hd : Vals dvs ds) (hx : Passes CX X E)
    (ha : PA X (e :: es) t) (hdb : (x == ("__debug__" : Str)) = false := by decide) (he : starEach (e :: es) X.env = (false, eval e X.env) :: starEach es X.env := by rfl) (hpl : (backTo pos (starEach es X.env)).any (·.1) = false := by rfl) :
    PE X (.Call (.Name x p) (e :: es) [] pos) (tCall sp dvs E t) := by
  constructor
  intro pins s σ H Q I h
  refine wpAny_Call_Name_kw (ld_glob I hg hm ?_ hdb)
  refine PySem.W.callWith_K (h₀ := X.base) I.ok.mod.kin hk (thn (ha.run pos pins s σ H _ I h) ?_) he hpl
  rintro us s1 ⟨xs, H1, I1, r, q⟩
  refine ⟨I1.kIn, ?_⟩
  have r2 : Vals (xs ++ dvs) (us ++ ds) := r.append hd
  have len : (us ++ ds).length = ps.length := r2.length.symm.trans (F.many _ _ _ _ q)
  refine wpAny_call (codeAny_mono (F.goes X.A X.stack s1 H1 ⟨us, []⟩ (us ++ ds) (xs ++ dvs) Q E g hr I1.env0 (hb s1 us I1.kIn len) r2 q) ?_)
  intro res s2 z
  match res, z with
  | .error err, z => exact hx pins σ H1 s1 err s2 I1 z
  | .ok (.ret u), z => exact I1.after z
  | .ok .next, z => exact False.elim z
  | .ok .brk, z => exact False.elim z
  | .ok .cont, z => exact False.elim z
end
end LB

set_option maxRecDepth 100000
set_option maxHeartbeats 2000000
namespace LB
open PySem PySem.Spec PyProof.Rows L2
/-! ### repr of data -/
/-- data whose repr is short enough to be told -/
structure Short (d : PyData) : Prop where
  sh : d.showable = true
  nd : d.hasDict = false
  dp : d.depth ≤ 50
  len : d.shown.length ≤ sizeLine
def rRepr (K : PySem.W.Frag) : List V → Hp → VK → Prop := fun xs H Q => ∃ v d, xs = [v] ∧ Dp K H v d ∧ Short d ∧ Q (.str d.shown) H
theorem call_repr {X : Cx} (g : Free X.A) (hu : X.A.units + 64 < cLine) : CallR X (.builtin "repr") (rRepr X.K) := by
  intro pins s σ H xs us Q I r h
  obtain ⟨v, d, rfl, hd, S, q⟩ := h
  obtain ⟨u, rfl, ru⟩ := vals1 r
  obtain ⟨as, rd⟩ := Dp.reads I d v u hd ru
  have fin : ∀ (a : Addr), Reads s.heap (.ref a) d as → wpAny (model X.prog X.w) X.A (call (.builtin "repr") [.ref a]) (EP X pins σ Q) X.xe s := fun a ra => by
    have dp := S.dp
    refine repr_of_reads' ra S.sh (PyData.noDict_hsm S.nd) g (by omega) (fun _ _ z => z) ?_ S.len
    intro h' t tk kept
    exact ⟨.str d.shown, H, I.kept kept, ⟨_, rfl⟩, q⟩
  cases rd with
  | none => exact PySem.P.repr_of_none ⟨.str _, H, I.tok _, ⟨_, rfl⟩, q⟩
  | bool b => exact PySem.P.repr_of_bool ⟨.str _, H, I.tok _, ⟨_, rfl⟩, q⟩
  | int i t => exact PySem.P.repr_of_int (by have z := S.sh; simpa [PyData.showable] using z) ⟨.str _, H, I.tok _, ⟨_, rfl⟩, q⟩
  | str x t => exact PySem.P.repr_of_str ⟨.str _, H, I.tok _, ⟨_, rfl⟩, q⟩ S.len
  | list h1 h2 h3 h4 => exact fin _ (.list h1 h2 h3 h4)
  | tuple h1 h2 h3 h4 => exact fin _ (.tuple h1 h2 h3 h4)
  | dict h1 h2 h3 h4 h5 => exact absurd S.nd (by simp [PyData.hasDict])
/-- small ints, texts of up to a million signs in all -/
theorem Short.of {d : PyData} (h1 : d.showable = true) (h2 : d.hasDict = false) (h3 : d.depth ≤ 50) (h4 : d.leavesShort 13 = true) (h5 : d.bulk ≤ 2 ^ 20) : Short d :=
  ⟨h1, h2, h3, PyData.shown_fits_bulk (by decide) (by decide) h4 h5⟩
theorem log_small {i : Int} (h : i.natAbs < 10 ^ 12) : i.natAbs.log2 < 1920 := by
  by_cases z : i.natAbs = 0
  · rw [z]; decide
  · have := (Nat.log2_lt z (k := 1920)).mpr (Nat.lt_trans h (by decide))
    exact this
theorem leaf_small {i : Int} (h : i.natAbs < 10 ^ 12) : (PyData.shown (.int i)).length ≤ 13 := PyData.shown_int_le (by simpa using h)
/-- an int below 10 ^ 12 in size -/
def Sm (i : Int) : Prop := i.natAbs < 10 ^ 12
theorem Sm.of {i : Int} (h1 : -1000000000 ≤ i) (h2 : i ≤ 1000000000) : Sm i := by
  have e : (10 : Nat) ^ 12 = 1000000000000 := by decide
  unfold Sm
  rw [e]
  omega
/-! ### two values of one repr -/
def spAlike (K : PySem.W.Frag) : Sp := fun vs H Q _ => ∃ x y d, vs = [x, y] ∧ Dp K H x d ∧ Dp K H y d ∧ Short d ∧ Q (.bl true) H
end LB

set_option maxRecDepth 100000
set_option maxHeartbeats 2000000
namespace LB
open PySem PySem.Spec PyProof.Rows L2
/-! ### the end of a law's row whose def is told of free places alone -/
section
variable {P : Program} {w : World} {K : PySem.W.Frag} {mg mb : Str → Option Value} {CX : CXT} {k : Nat} {fa a : Addr} {fd : FuncData} {x : Str} {sp : Sp} {z : Shared} {us : List Value} {ns : List Int}
/-- what law answers, from a heap H that tracks the script at most -/
theorem answer_from {H : Hp} (g : z.gens = #[]) (only : Only H) (alone : ∀ b, H b ≠ none → b = a) (isL : ∃ d n, (z.heap.get? a).map Obj.data = some (.seq d n)) (kin : K.In z.heap) (apart : H a ≠ none → K.lookup a = none)
    (ng : z.heap.Ns mainGlobals mg) (nb : z.heap.Ns builtinsNs mb) (boot : ∀ y : Str, y ≠ "__name__" → mb y = bootBuiltins y) (nolim : z.heap.NoLimit) (hok : HOk P w H z.heap) (room : Room k callerA)
    (F : ∀ b : Heap, K.In b → b.Ns mainGlobals mg → FnG P w K mg b CX k fa fd [x] sp) (binds : ∀ (s : Shared) (u : Value), BindsTo s fd ⟨[u], []⟩ [(x, u)])
    (want : sp [.ref a] H (fun v _ => v = .bl true) fun _ _ _ => False) (calm : ∀ e s', CX [] H z (fun _ _ _ => False) e s' → False) :
    codeAny (model P w) callerA (.call (.ref fa) ⟨[.ref a], []⟩) (fun r s' => r = .ok (.ret (.bool true)) ∧ OldK z.heap s'.heap ∧ s'.os = z.os ∧ AllBare s'.gens) z := by
  have dictFree : ∀ {b : Addr} {o : Obj} {es : Array DictEntry} {n : Nat}, z.heap.get? b = some o → o.data = .dict es n → H b = none := by
    intro b o es n at_ da
    by_cases q : H b = none
    · exact q
    · have eb := alone b q
      subst eb
      obtain ⟨d, m, e⟩ := isL
      rw [at_] at e
      have e2 := Option.some.inj e
      rw [da] at e2
      cases e2
  have moved : ∀ {b : Addr} {m : Str → Option Value}, z.heap.Ns b m → (hidT z.heap H).Ns b m := by
    rintro b m ⟨o, es, n, at_, da, r⟩
    exact ⟨o, es, n, hidT_get at_ (dictFree at_ da), da, r⟩
  have kin2 : K.In (hidT z.heap H) := by
    intro b o at_
    refine hidT_get (kin b o at_) ?_
    by_cases q : H b = none
    · exact q
    · have eb := alone b q
      subst eb
      rw [apart q] at at_
      cases at_
  obtain ⟨mc, c1, c2⟩ := nolim
  have e0 : Env0 P w K mg (hidT z.heap H) callerA [] z H :=
    { frames := rfl, mod := ⟨kin2, moved ng, ⟨mb, moved nb, boot⟩, ⟨mc, moved c1, c2⟩⟩, bs := fun _ _ at_ => of_hidT at_, bsz := Nat.le_of_eq (hidT_size _ _), funs := trivial,
      frf := fun b hb => absurd (show b ∈ ([] : List Addr) from hb) List.not_mem_nil, hok := hok, bare := .of_eq g }
  refine codeAny_mono ((F _ kin2 (moved ng)).goes callerA [] z H ⟨[.ref a], []⟩ [.ref a] [.ref a] _ _ rfl room e0 (binds z (.ref a)) (.cons rfl .nil) want) ?_
  intro r s' out
  match r, out with
  | .error e, out => exact (calm e s' out).elim
  | .ok .next, out => exact False.elim out
  | .ok .brk, out => exact False.elim out
  | .ok .cont, out => exact False.elim out
  | .ok (.ret u), out =>
    obtain ⟨v, H', os, bare, un, hok', r', q⟩ := out
    have q' : v = .bl true := q
    subst q'
    have eu : u = Value.bool true := r'
    subst eu
    refine ⟨rfl, OldK.of_keep ?_, os, bare⟩
    intro b o at_
    by_cases q : H b = none
    · exact un.keep b o at_ q (fun y => absurd (show b ∈ ([] : List Addr) from y) List.not_mem_nil) List.not_mem_nil
    · rcases only b with y | ⟨ob, xs, y⟩
      · exact absurd y q
      · obtain ⟨e1, _⟩ := hok b _ y
        obtain ⟨e2, _⟩ := hok' b _ (un.frzs b ob _ y)
        rw [at_] at e1
        cases e1
        exact e2
end
theorem walk_free {l : PySem.W.OpenLaw} {n k : Nat} {q : Program} {loose : List Str} {XP : (Str → Option Value) → Heap → Prop} {YP : World → Heap → Prop} {d : DefRec} {K : Params → PySem.W.Frag} {CX : CXT} {sp : PySem.W.Frag → Sp} {x : Str}
    (most : l.most = some n) (small : n ≤ sizeLine) (plain : d.params.defaults = []) (room : Room k callerA) (hY : ∀ (w : World) (h : Heap), YP w h → (K w.params).In h)
    (F : ∀ (w : World) (mg : Str → Option Value) (fa : Addr) (h : Heap), (K w.params).In h → h.Ns mainGlobals mg → mg d.name = some (.ref fa) →
      ∃ fd : FuncData, (∀ (s : Shared) (u : Value), BindsTo s fd ⟨[u], []⟩ [(x, u)]) ∧ ∀ base : Heap, (K w.params).In base → base.Ns mainGlobals mg → FnG l.prog w (K w.params) mg base CX k fa fd [x] (sp (K w.params)))
    (want : ∀ (K : PySem.W.Frag) (H : Hp) (a : Addr) (ns : List Int), ns.length ≤ n → (∀ i ∈ ns, Builtin.Int.intBits i ≤ 1048576) → SqL K H a (ns.map V.int) → sp K [.ref a] H (fun v _ => v = .bl true) fun _ _ _ => False)
    (calm : ∀ (H : Hp) (s : Shared) (e : Value) (s' : Shared), CX [] H s (fun _ _ _ => False) e s' → False) :
    PySem.W.WalkO q loose XP YP l.row.toRowW d [] (fun f vs => PySem.call f vs) := by
  refine Att.attach_callB most plain ?_
  intro w s₀ z mg mb fa o pm cd doc a us ns G Y ho hd hcd hmg at_ nums len bits g
  have kin := hY w _ Y
  obtain ⟨fd, hb, hF⟩ := F w mg fa _ kin G.T.g hmg
  have vals := vals_ints nums
  have lenU : us.length = ns.length := nums.length
  have lenS : (ns.map V.int).length ≤ sizeLine := by rw [List.length_map]; exact Nat.le_trans len small
  have isL : ∃ d n, (z.heap.get? a).map Obj.data = some (.seq d n) := ⟨us.toArray, _, by rw [at_]; rfl⟩
  cases lk : (K w.params).lookup a with
  | some ob =>
    have eo := kin a ob lk
    rw [at_] at eo
    cases eo
    refine answer_from (H := fun _ => none) g (fun _ => .inl rfl) (fun b y => absurd rfl y) isL kin (fun y => absurd rfl y) G.T.g G.T.b G.T.builtins G.T.nolimit (fun b u y => by cases (show (none : Option HO) = some u from y)) room hF hb ?_ fun e s' => calm _ z e s'
    exact want _ _ a ns len bits (.inr ⟨_, us.toArray, _, lk, rfl, rfl, rfl, by simpa [lenU] using lenS, by simpa using vals⟩)
  | none =>
    let S : HO := .frz { cls := .type "list", data := .seq us.toArray } (.lst (ns.map V.int))
    have yes : upd (fun _ => none) a S a = some S := upd_same
    have no : ∀ b, b ≠ a → upd (fun _ => none) a S b = none := fun b hb => by rw [upd_ne hb]
    refine answer_from (H := upd (fun _ => none) a S) g (fun b => ?_) (fun b y => ?_) isL kin (fun _ => lk) G.T.g G.T.b G.T.builtins G.T.nolimit (fun b u y => ?_) room hF hb ?_ fun e s' => calm _ z e s'
    · by_cases hb : b = a
      · subst hb
        exact .inr ⟨_, _, yes⟩
      · exact .inl (no b hb)
    · exact Classical.byContradiction fun hb => y (no b hb)
    · by_cases hb : b = a
      · subst hb
        have ey := Option.some.inj (yes.symm.trans y)
        subst ey
        exact ⟨at_, lenS, us, _, vals, at_⟩
      · rw [no b hb] at y
        cases y
    · exact want _ _ a ns len bits (.inl (.inr ⟨_, yes⟩))
end LB

set_option maxRecDepth 100000
set_option maxHeartbeats 4000000
namespace LB
open PySem PySem.W PySem.Calls PyProof.Rows PySem.HandSPX
/-! ### an own error whose __init__ calls super with an f-string of a name and keeps the name -/
def eA (p1 p2 : Pos) : Arguments := { posonlyargs := [], args := [{ arg := "self", annotation := none, pos := p1 }, { arg := "name", annotation := none, pos := p2 }], vararg := none, kwonlyargs := [], kw_defaults := [], kwarg := none, defaults := [] }
def eB (tx : String) (k0 : Nat) (q1 q2 q3 q4 q5 q6 q7 q8 q9 q10 q11 q12 q13 : Pos) : List Stmt :=
  [.Expr (.Call (.Attribute (.Call (.Name "super" q1) [] [] q2) "__init__" q3) [.JoinedStr [.FormattedValue (.Name "name" q4) (-1) none q5, .Constant (.str tx) k0 q6] q7] [] q8) q9,
   .Assign [.Attribute (.Name "self" q10) "name" q11] (.Name "name" q12) q13]
def eS : Scope := { kind := .function, names := [(PySem.Str.ofString "self", .local), (PySem.Str.ofString "name", .local), (PySem.Str.ofString "__class__", .free), (PySem.Str.ofString "super", .globalImplicit)], isGenerator := false, isCoroutine := false, more := [] }
abbrev veMro : List Value := [.type "ValueError", .type "Exception", .type "BaseException", .type "object"]
/-- what the written part says of the class named n, at C, and of its __init__, at fI -/
structure Oor (K : Frag) (mg : Str → Option Value) (prog : Program) (n : Str) (C fI cc cda : Addr) : Prop where
  gC : mg n = some (.ref C)
  cls : ∃ nm q N bs bm sn sub ab col dd k0 k1 k2 k3 k5, K.lookup C = some (excClassObj nm q C N bs bm true sn sub ab col dd k0 k1 k2 k3 k5 "ValueError.__new__") ∧ refsVE bm = true
  sa : findIn K (.ref C) "__setattr__" = some (some (.builtin "object.__setattr__"))
  ga : findIn K (.ref C) "__getattribute__" = some (some (.builtin "BaseException.__getattribute__"))
  gg : findIn K (.ref C) "__getattr__" = some none
  noN : findIn K (.ref C) "name" = some none
  iC : findIn K (.ref C) "__init__" = some (some (.ref fI))
  tC : typeIn K (.ref fI) = some (.type "function")
  kC : keepIn K (.ref C) = true
  exC : subIn K (.ref C) (.type "BaseException") = some true
  veC : subIn K (.ref C) (.type "ValueError") = some true
  tyC : typeIn K (.ref C) = some (.type "type")
  hdC : hasDictIn K C = true
  me : mroIn K C (.ref C) = some true
  up : ks_superIn K C C "__init__" = some (some (.builtin "ValueError.__init__"))
  made : excInitIn K C veMro "ValueError.__new__" = true
  op : nsIn K cStatics "thirdparty.any" = some none
  mgS : mg "super" = none
  top : (prog.main.scope.names.lookup ("super" : Str)).isSome = false
  cell : ∃ (cl : Value) (cld : Option Addr) (csl : Array (Option Value)), K.lookup cc = some ⟨cl, cld, .cell (some (.ref C)), csl⟩
  code : ∃ (ccl : Value) (cdd : Option Addr) (vs : Array Value) (ccs : Array (Option Value)) (file : Str) (tf : Tok), K.lookup cda = some ⟨ccl, cdd, .fields vs, ccs⟩ ∧ vs[2]? = some (.str file tf) ∧ ((prog.main.file : Str) == file) = true
  fn : ∃ (oc : Value) (od : Option Addr) (q : Str) (doc pm : Value) (an : Option Addr) (ct : Value) (osl : Array (Option Value)) (tx : String) (k0 : Nat) (p1 p2 q1 q2 q3 q4 q5 q6 q7 q8 q9 q10 q11 q12 q13 : Pos),
    K.lookup fI = some ⟨oc, od, .func (ksFn "__init__" q (eA p1 p2) (eB tx k0 q1 q2 q3 q4 q5 q6 q7 q8 q9 q10 q11 q12 q13) eS .none .none doc pm an (.ref cda) ct cc), osl⟩ ∧ codeIn K (.ref cda) q = true ∧ (Str.ofString tx).length ≤ 1000 ∧ (q3.endLine == q8.line) = true
/-- what __init__ leaves of a fresh error at x -/
structure ErrEnd (h h' : Heap) (x C dx : Addr) (v : Value) : Prop where
  keep : ∀ b o, b ≠ x → h.get? b = some o → h'.get? b = some o
  obj : ∃ t1 : Addr, h'.get? x = some { cls := .ref C, dict := some dx, data := .fields #[.ref t1, .none, .none, .none, .bool false, .none] }
  dbig : h.objs.size ≤ dx
  dne : dx ≠ x
  ns : h'.Ns1 dx (fun y => if y = "name" then some v else none)
section
variable {prog : Program} {w : World} {A : Around} {R : Result → Shared → Prop} {s : Shared} {K : Frag} {mg : Str → Option Value} {n : Str} {C fI cc cda : Addr}
theorem err_init (T : Oor K mg prog n C fI cc cda) {base : Heap} {x t0 : Addr} {z : Str} {zt : Tok} (kb : K.In base) (gb : base.Ns mainGlobals mg) (bb : ∃ mb, base.Ns builtinsNs mb ∧ ∀ y : Str, y ≠ "__name__" → mb y = bootBuiltins y)
    (bk : ∀ b o, base.get? b = some o → s.heap.get? b = some o) (bsz : base.objs.size ≤ s.heap.objs.size) (nx : base.get? x = none) (lim : s.heap.NoLimit) (hx : s.heap.get? x = some (excO C t0)) (hz : z.length ≤ 1000) (room : A.depth < recursionLimit)
    (hq : ∀ h' tk dx zt', ErrEnd s.heap h' x C dx (.str z zt') → R (.ok (.ret .none)) { s with heap := h', toks := tk }) :
    codeAny (model prog w) A (.call (.ref fI) ⟨[.ref x, .str z zt], []⟩) R s := by
  obtain ⟨oc, od, q, doc, pm, an, ct, osl, tx, k0, p1, p2, q1, q2, q3, q4, q5, q6, q7, q8, q9, q10, q11, q12, q13, ho, hcd, htx, hln⟩ := T.fn
  obtain ⟨nm, qn, N0, bs, bm, sn, sub, ab, col, dd, e0, e1, e2, e3, e5, hC, hbm⟩ := T.cls
  have hcl : clsIn K C = some { name := nm, bases := bs, mro := .ref C :: bm, ns := N0, qualname := qn, hasDict := true, slotNames := sn, subclasses := sub, abstract := ab, collection := col, hasDel := false } := by unfold clsIn; rw [hC] <;> rfl
  obtain ⟨cl, cld, csl, hcell⟩ := T.cell
  obtain ⟨ccl, cdd, vs, ccs, file, tf, hcode, hvs, hfile⟩ := T.code
  obtain ⟨mb, hmb, hboot⟩ := bb
  have X : K.In s.heap := kb.keeps bk
  obtain ⟨hp, g, dr, tk, os⟩ := s
  refine ks_codeAny_call_defAt (fd := ksFn "__init__" q (eA p1 p2) (eB tx k0 q1 q2 q3 q4 q5 q6 q7 q8 q9 q10 q11 q12 q13) eS .none .none doc pm an (.ref cda) ct cc) (body := eB tx k0 q1 q2 q3 q4 q5 q6 q7 q8 q9 q10 q11 q12 q13) (binds := [("self", .ref x), ("name", .str z zt)])
    room (X _ _ ho) rfl lim (codeRec_of X hcd) rfl (BindsTo.of_eq (by first | rfl | with_unfolding_all rfl)) (show ∀ y ∈ eS.names, y.2 ≠ .cell from by decide +kernel) (show ∀ y ∈ [(("self" : Str), Value.ref x), (("name" : Str), Value.str z zt)], eS.names.lookup y.1 = some .local from locs rfl) (fun h₁ hns hk₁ => ?_) rfl rfl rfl
  have X₁ : K.In h₁ := X.keeps hk₁
  have hx₁ := hk₁ _ _ hx
  have hxL : x ≠ hp.objs.size := Nat.ne_of_lt (Heap.lt_size hx)
  have inG : ∀ b o, base.get? b = some o → (hp.hide x).get? b = some o := fun b o e => (Heap.hide_ne hp (fun z => by rw [z, nx] at e; cases e)).trans (bk b o e)
  have kG : K.In (hp.hide x) := kb.keeps inG
  have F₁ : Fr (hp.hide x) hp.objs.size h₁ _ := ⟨hns, fun b o e => hk₁ b o (Heap.of_hide e), Nat.le_of_eq (Heap.hide_size hp x)⟩
  have N₁ : News (hp.hide x) hp.objs.size h₁ [(x, excObj C t0 none .none)] := fun p hp' => by
    have e := List.mem_singleton.mp hp'
    subst e
    exact ⟨hx₁, hxL, Heap.hide_self hp x⟩
  refine ks_wpAt_execs_cons (ks_wpAt_Expr_any ?_)
  refine ks_wpAt_MethodCall (pl := (do return (← importBound _ _).getD true)) ?_ (he := by
    show (do
      let ov ← attributeBase _ _ _ _
      standAt q3.atName
      methodCall _ _ q3 q8 _ ov _ _ _) = _
    simp only [methodCall, methodCallPos, hln, Bool.or_true, if_true, pure_bind]
    rfl)
  refine ks_wpAt_super_base (f := fI) (cc := cda) (by first | rfl | decide +kernel) (by first | rfl | decide +kernel) (by decide +kernel) rfl (X₁ _ _ ho) rfl rfl rfl (X₁ _ _ hcode) rfl hvs hfile T.top ?_
  refine ks_loadName_global rfl (by first | rfl | decide +kernel) (loadGlobal_builtin (gb.keeps fun b o e => F₁.keep b o (inG b o e)) T.mgS (hmb.keeps fun b o e => F₁.keep b o (inG b o e)) ((hboot _ (by decide +kernel)).trans PyProof.Rows.Boot.«super») ⟨rfl, ?_⟩)
  refine wpAny_loadName_free rfl (by first | rfl | decide +kernel) rfl ⟨_, X₁ _ _ hcell, rfl⟩ ?_
  refine wpAny_loadName_local rfl (by first | rfl | decide +kernel) hns (show _ = some (Value.ref x) from by first | rfl | with_unfolding_all rfl | kernel_rfl) ?_
  refine ks_wpAny_isType_cls (X₁ _ _ hC) rfl ⟨rfl, ?_⟩
  refine ks_wpAny_call_super (X₁ _ _ hC) rfl hx₁ rfl (fun c e => nomatch e) (looks_mroIn X₁ T.me) (fun h₂ e₂ k₂ => ?_)
  obtain ⟨F₂, N₂, l₂⟩ := ks_newsPush (s := ⟨h₁, g, dr, tk + 2, os⟩) F₁ N₁ rfl e₂ k₂
  refine kxs_method kxs_ValueError F₂ kG N₂ (List.mem_cons_self ..) (InstAt.of_exc0 N₂ (List.mem_cons_of_mem _ (List.mem_cons_self ..))) T.op T.up T.veC (by decide +kernel) (fun u h₃ F₃ N₃ l₃ => ?_)
  refine kxs_callWith1 N₃ (List.mem_cons_self ..) ?_ (he := rfl) (hplain := rfl)
  show wpAny _ _ (spliced ((false, eval (.JoinedStr [.FormattedValue (.Name "name" q4) (-1) none q5, .Constant (.str tx) k0 q6] q7) (ksEnv q eS hp.objs.size fI (.ref cda) cc)) :: backTo q8 (starEach [] (ksEnv q eS hp.objs.size fI (.ref cda) cc)))) _ _ _
  refine Calls.spliced_cons (wpAny_JoinedStr ?_)
  have so_u : hp.objs.size ≠ x := Ne.symm hxL
  have ux : u ≠ x := fun z => by
    have := l₃ (x, excObj C t0 none .none) (List.mem_cons_of_mem _ (List.mem_cons_self ..))
    rw [z] at this
    exact absurd this (Nat.lt_irrefl _)
  have sx : h₁.objs.size ≠ x := fun z => by
    have := l₂ (x, excObj C t0 none .none) (List.mem_cons_self ..)
    rw [z] at this
    exact absurd this (Nat.lt_irrefl _)
  have U : UpdF x (excObj C t0 none .none) [(u, kxs_mw "ValueError.__init__" x), (h₁.objs.size, ks_superObj C x C), (x, excObj C t0 none .none)] (fun o' => (u, kxs_mw "ValueError.__init__" x) :: (h₁.objs.size, ks_superObj C x C) :: (x, o') :: []) :=
    .tail ux (.tail sx (.head (by simp)))
  show Joins _ _ _ (eval (.FormattedValue (.Name "name" q4) (-1) none q5) (ksEnv q eS hp.objs.size fI (.ref cda) cc) :: evalEach [.Constant (.str tx) k0 q6] (ksEnv q eS hp.objs.size fI (.ref cda) cc)) Str.empty _ _
  have hz2 : z.length ≤ sizeLine := Nat.le_trans hz (by decide)
  have len0 : (Str.empty ++ z).length ≤ sizeLine := by
    have e1 : (Str.empty : Str).length = 0 := rfl
    rw [Str.length_append, e1, sizeLine_eq]
    omega
  refine wpAny_FormattedValue_plain (ESX.ldL (v := .str z zt) F₃.ns (by first | rfl | with_unfolding_all rfl | kernel_rfl) ?_)
  refine wpAny_formatField_str ⟨_, _, rfl, len0, ?_⟩ ⟨_, _, rfl, len0, ?_⟩ hz2
  all_goals
    have e0 : evalEach [.Constant (.str tx) k0 q6] (ksEnv q eS hp.objs.size fI (.ref cda) cc) = [eval (.Constant (.str tx) k0 q6) (ksEnv q eS hp.objs.size fI (.ref cda) cc)] := by first | rfl | simp [evalEach]
    rw [e0]
    have len : (Str.empty ++ z ++ (tx : Str)).length ≤ sizeLine := by
      have e1 : (Str.empty : Str).length = 0 := rfl
      rw [Str.length_append, Str.length_append, e1, sizeLine_eq]
      have := htx
      omega
    refine wpAny_Constant_str ⟨_, _, rfl, len, ?_⟩
    refine ⟨len, Calls.spliced_nil ⟨kxs_at N₃ (List.mem_cons_self ..), ?_⟩⟩
    refine kxs_call F₃ kG N₃ PySem.F.excBase_ValueError T.made (List.mem_cons_self ..) U (by show 1 ≤ sizeLine; decide) (fun t1 h₄ F₄ N₄ l₄ => ?_)
    have hx₄ : h₄.get? x = some (excObj C t1 none .none) := (N₄ (x, excObj C t1 none .none) (by simp)).1
    have X₄ : K.In h₄ := kG.keeps F₄.keep
    refine wpAt_of_wpAny ?_
    refine wpAny_execs_cons (plainObj_wpAny_Assign_Attribute ?_)
    refine ESX.ldL (v := .str z zt) F₄.ns (by first | rfl | with_unfolding_all rfl | kernel_rfl) (ESX.ldL (v := .ref x) F₄.ns (by first | rfl | with_unfolding_all rfl | kernel_rfl) ?_)
    refine set_plain X₄ (ox := excO C t1) (od := none) ⟨hx₄, rfl, rfl, trivial⟩ T.sa ?_
    refine exc_osa X₄ hx₄ hcl (show refsVE (.ref C :: bm) = true from hbm) rfl T.noN (fun h₅ tk₅ dx k₅ dn dne hx₅ hn₅ => ?_)
    show wpAny _ _ (execs _ _) _ _ _
    refine wpAny_execs_nil (hq h₅ tk₅ dx zt ⟨fun b o hb e => k₅ b o hb (F₄.keep b o ((Heap.hide_ne hp hb).trans e)), ⟨t1, hx₅⟩, ?_, dne, hn₅⟩)
    refine Nat.le_trans ?_ dn
    obtain ⟨oL, es, ep, hL, _⟩ := F₄.ns
    exact Nat.le_of_lt (Heap.lt_size hL)
end
end LB

set_option maxRecDepth 100000
set_option maxHeartbeats 4000000
namespace LB
open PySem PySem.W PySem.Calls PyProof.Rows PySem.HandSPX
/-- a made error at e, its own dict at d -/
structure ErrMade (h h' : Heap) (e C d : Addr) (v : Value) : Prop where
  keep : ∀ b o, h.get? b = some o → h'.get? b = some o
  new : h.objs.size ≤ e
  obj : ∃ oe vs, h'.get? e = some oe ∧ oe.cls = .ref C ∧ oe.dict = some d ∧ oe.data = .fields vs ∧ vs[1]? = some .none
  dbig : h.objs.size ≤ d
  dne : d ≠ e
  ns : h'.Ns1 d (fun y => if y = "name" then some v else none)
section
variable {prog : Program} {w : World} {A : Around} {R : Result → Shared → Prop} {s : Shared} {K : Frag} {mg : Str → Option Value} {n : Str} {C fI cc cda : Addr}
theorem err_made (T : Oor K mg prog n C fI cc cda) {base : Heap} {z : Str} {zt : Tok} (kb : K.In base) (gb : base.Ns mainGlobals mg) (bb : ∃ mb, base.Ns builtinsNs mb ∧ ∀ y : Str, y ≠ "__name__" → mb y = bootBuiltins y)
    (bk : ∀ b o, base.get? b = some o → s.heap.get? b = some o) (bsz : base.objs.size ≤ s.heap.objs.size) (lim : s.heap.NoLimit) (hz : z.length ≤ 1000) (room : A.depth + 1 < recursionLimit)
    (hq : ∀ h' tk e d zt', ErrMade s.heap h' e C d (.str z zt') → R (.ok (.ret (.ref e))) { s with heap := h', toks := tk }) :
    codeAny (model prog w) A (.call (.ref C) ⟨[.str z zt], []⟩) R s := by
  obtain ⟨nm, q, N, bs, bm, sn, sub, ab, col, dd, k0, k1, k2, k3, k5, hC, hbm⟩ := T.cls
  obtain ⟨hp, g, dr, tk, os⟩ := s
  have X : K.In hp := kb.keeps bk
  have k : ∀ b o, hp.get? b = some o → ((hp.push (kdv_tup [.str z zt])).push (excO C hp.objs.size)).get? b = some o := fun b o e => Heap.get?_push_of_some _ (Heap.get?_push_of_some _ e)
  have hget : ((hp.push (kdv_tup [.str z zt])).push (excO C hp.objs.size)).get? (hp.objs.size + 1) = some (excO C hp.objs.size) := by heap_get
  have nx : base.get? (hp.objs.size + 1) = none := Heap.get?_none_of_le (Nat.le_trans bsz (Nat.le_succ _))
  refine call_own PySem.F.excBase_ValueError (fun Y => refsVE_contains Y bm hbm) (X _ _ hC) (looks_findIn X T.iC) (fun self => bind_fn X self T.tC) (by show 1 ≤ sizeLine; decide) ?_
  refine err_init (s := ⟨(hp.push (kdv_tup [.str z zt])).push (excO C hp.objs.size), g, dr, tk, os⟩) T kb gb bb (fun b o e => k b o (bk b o e)) (Nat.le_trans (show base.objs.size ≤ hp.objs.size from bsz) (by simp only [Heap.size_push]; omega)) nx (lim.keeps k) hget hz ?_ fun h' tk' dx zt' W => ?_
  · show A.depth + 1 < recursionLimit
    exact room
  · obtain ⟨t1, hx⟩ := W.obj
    have old : ∀ b o, hp.get? b = some o → h'.get? b = some o := fun b o e => W.keep b o (Nat.ne_of_lt (Nat.lt_succ_of_lt (Heap.lt_size e))) (k b o e)
    have dn : hp.objs.size ≤ dx := by
      have y := W.dbig
      simp only [Heap.size_push] at y
      omega
    exact ⟨rfl, hq h' tk' (hp.objs.size + 1) dx zt' ⟨old, Nat.le_succ _, ⟨_, _, hx, rfl, rfl, rfl, rfl⟩, dn, W.dne, W.ns⟩⟩
end
end LB
namespace LB
open PySem PySem.Spec PyProof.Rows L2
theorem relO_name {v : V} {v' : Value} (r : RelV v v') (f : Str) : RelO (List.lookup f [(("name" : Str), v)]) (if f = "name" then some v' else none) := by
  by_cases hw : f = "name"
  · subst hw
    rw [if_pos rfl]
    have q : List.lookup ("name" : Str) [(("name" : Str), v)] = some v := by simp [List.lookup]
    rw [q]
    exact r
  · rw [if_neg hw]
    have qw : (f == ("name" : Str)) = false := by simpa using hw
    have q2 : List.lookup f [(("name" : Str), v)] = none := by simp [List.lookup, qw]
    rw [q2]
    trivial
section
variable {X : Cx} {n : Str} {C fI cc cda : Addr}
/-- Err(e), e a text of at most 1000 signs -/
def tMkErr (C : Addr) (ta : TA) : L2.St → Hp → XK → Prop := fun σ H Q => ta σ H fun vs H1 => ∃ z : Str, vs = [.str z] ∧ z.length ≤ 1000 ∧ ∀ d, H1 d = none → Q (.ref C) (some d) (upd H1 d (.xd [(("name" : Str), .str z)]))
theorem pmk_err {a : Expr} {ta : TA} {p pos : Pos} {k : Nat} (T : Oor X.K X.mg X.prog n C fI cc cda) (hr : Room k X.A) (ha : PA X [a] ta) (hg : Gl X n) (hd : (n == ("__debug__" : Str)) = false)
    (he : starEach (a :: []) X.env = (false, eval a X.env) :: starEach [] X.env := by rfl) (hpl : (backTo pos (starEach [] X.env)).any (·.1) = false := by rfl) :
    PMk X (.Call (.Name n p) [a] [] pos) (tMkErr C ta) := by
  intro pins s σ H Q I h
  refine wpAny_Call_Name_kw (ld_glob I hg T.gC ?_ hd)
  refine PySem.W.callWith_K (h₀ := X.base) I.ok.mod.kin T.kC (thn (ha.run pos pins s σ H _ I h) fun us s1 hh => ?_) he hpl
  obtain ⟨vs, H1, I1, r1, z, ev, hz, q1⟩ := hh
  subst ev
  refine ⟨I1.kIn, ?_⟩
  cases r1 with
  | cons rv rn =>
    rename_i v' us'
    cases rn
    obtain ⟨zt, rfl⟩ := rv
    show wpAny _ _ (call (.ref C) [.str z zt]) _ _ _
    have hlim := I1.nolimit
    have kin := I1.ok.mod
    have bk := I1.bk
    have bsz : X.base.objs.size ≤ s1.heap.objs.size := Nat.le_trans I1.ok.bsz I1.sz
    obtain ⟨hp, g, dr, tk, os⟩ := s1
    obtain ⟨m1, m2, m3, m4⟩ := kin
    refine wpAny_call (err_made T m1 m2 m3 bk bsz hlim hz (by have := hr.dp; omega) fun h' tk' e d zt' M => ?_)
    show MkP X pins σ Q (.ref e) ⟨h', g, dr, tk', os⟩
    obtain ⟨oe, fv, hoe, hc, hd, hdat, h1⟩ := M.obj
    have hns := M.ns
    obtain ⟨G', g1, g2⟩ := restrict h' fun b => decide (b ≠ e)
    have gk : ∀ b, b ≠ e → G'.get? b = h'.get? b := fun b hb => g1 b (decide_eq_true hb)
    have ge : G'.get? e = none := g2 e (by simp)
    have old : ∀ b o, hp.get? b = some o → G'.get? b = some o := fun b o q => (gk b (Nat.ne_of_lt (Nat.lt_of_lt_of_le (Heap.lt_size q) M.new))).trans (M.keep b o q)
    have ob : ObjOk X.prog X.w (upd H1 d (.xd [(("name" : Str), .str z)])) G' d (.xd [(("name" : Str), .str z)]) :=
      ⟨_, hns.at (fun o q => (gk d M.dne).trans q), fun f => relO_name (v := .str z) (v' := .str z zt') ⟨zt', rfl⟩ f⟩
    have J : Inv X pins σ (upd H1 d (.xd [(("name" : Str), .str z)])) ⟨G', g, dr, tk', os⟩ := I1.laid (t' := tk') old M.dbig ob
    refine ⟨e, oe, fv, ⟨G', g, dr, tk', os⟩, _, .ref C, some d, rfl, J, fun b o q => ?_, ge, hoe, ⟨hc, hd⟩, hdat, h1, ?_, rfl, I1.bare, raises_own T.exC T.tyC, q1 d (I1.hok.fresh M.dbig)⟩
    · by_cases hb : b = e
      · have q' : G'.get? b = some o := q
        rw [hb, ge] at q'; cases q'
      · exact (gk b hb).symm.trans q
    · rw [upd_ne (Ne.symm M.dne)]
      exact I1.hok.fresh M.new
/-- raise Err(e) -/
def tRaiseErr (C : Addr) (W : WX) (ta : TA) : TS := fun _ σ H => tMkErr C ta σ H fun cls d H' => W cls d σ H'
theorem ps_raiseErr {a : Expr} {ta : TA} {W : WX} {p pos pos2 : Pos} {k : Nat} (hc : X.calm = true) (T : Oor X.K X.mg X.prog n C fI cc cda) (hr : Room k X.A) (tk : Takes X W) (ha : PA X [a] ta) (hg : Gl X n) (hd : (n == ("__debug__" : Str)) = false)
    (he : starEach (a :: []) X.env = (false, eval a X.env) :: starEach [] X.env := by rfl) (hpl : (backTo pos (starEach [] X.env)).any (·.1) = false := by rfl) :
    PS X (.Raise (some (.Call (.Name n p) [a] [] pos)) none pos2) (tRaiseErr C W ta) := ps_raise hc tk (pmk_err T hr ha hg hd he hpl)
/-- e.name, e the error that the suite holds (at a; its class cls, its dict d) -/
def tErrName (C : Addr) (a : Addr) (cls : Value) (d : Option Addr) (te : TE) : TE := fun σ H Q => te σ H fun x H1 => x = .ref a ∧ cls = .ref C ∧ ∃ (dd : Addr) (v : V), d = some dd ∧ H1 dd = some (.xd [(("name" : Str), v)]) ∧ Q v H1
theorem pe_errName {a : Addr} {oe : Obj} {cls : Value} {d : Option Addr} {pn : List (Addr × Obj)} {e : Expr} {te : TE} {pos : Pos} (T : Oor X.K X.mg X.prog n C fI cc cda) (hz : Zc cls d oe) (hf : ∃ vs, oe.data = .fields vs) (he : PE (X.suite a ((a, oe) :: pn)) e te)
    (hb : attributeBase e "name" X.env (eval e X.env) = eval e X.env := by rfl) :
    PE (X.suite a ((a, oe) :: pn)) (.Attribute e "name" pos) (tErrName C a cls d te) := by
  refine ⟨fun pins s σ H Q I h => ?_⟩
  refine attr_of hb (thn (he.run pins s σ H _ I h) fun u s1 hh => ?_)
  obtain ⟨x, H1, I1, rx, ex, ec, dd, v, ed, ea, q⟩ := hh
  subst ex
  obtain rfl : u = Value.ref a := rx
  subst ec
  subst ed
  obtain ⟨ha, _⟩ := I1.pin (a, oe) (List.mem_append_left _ List.mem_cons_self)
  obtain ⟨vs, hd⟩ := hf
  have hx : ObjOk X.prog X.w H1 s1.heap dd (.xd [(("name" : Str), v)]) := I1.hok dd _ ea
  obtain ⟨mA, hns, hr⟩ := hx
  obtain ⟨od, ho, hl⟩ := lookIn_ns hns
  have l : List.lookup ("name" : Str) [(("name" : Str), v)] = some v := by simp [List.lookup]
  obtain ⟨u, hu, ru⟩ := RelO.some_of (v := v) (o := mA "name") (by rw [← l]; exact hr "name")
  have J : PySem.W.InstAt s1.heap a oe C (some od) := ⟨ha, hz.1, by unfold PySem.W.notCls; rw [hd] <;> rfl, by rw [hz.2]; exact ho⟩
  exact HandSPX.exc_get I1.kIn J T.ga T.gg T.exC (PySem.W.findObj_own T.hdC T.noN rfl (by rw [hl, hu])) (handed_of ru) ⟨v, H1, I1.tok _, ru, q⟩
/-- isinstance(e, D), e such an error, D a class: told of K -/
structure IsF (K : PySem.W.Frag) (C : Addr) : Prop where
  ha : PySem.W.findIn K (.ref C) "__class__" = some (some (.builtin "object.__class__"))
  hn : PySem.W.specialIn K (.builtin "object.__class__") "__get__" = some (some (.builtin "getset_descriptor.__get__"))
  ht : PySem.W.takesIn K (.builtin "object.__class__") = some true
  hm : PySem.W.mroIn K C (.type "object") = some true
def rIsErr (K : PySem.W.Frag) (C a : Addr) (cls : Value) (d : Option Addr) : List V → Hp → VK → Prop := fun xs H Q => ∃ (D dd : Addr) (b : Bool) (fs : List (Str × V)), xs = [.ref a, .ref D] ∧ cls = .ref C ∧ d = some dd ∧ PySem.W.kitOne K (.ref C) (.ref D) = some b ∧ H dd = some (.xd fs) ∧ Q (.bl b) H
theorem call_isErr {a : Addr} {cls : Value} {d : Option Addr} {oe : Obj} {pn : List (Addr × Obj)} (T : Oor X.K X.mg X.prog n C fI cc cda) (F : IsF X.K C) (hz : Zc cls d oe) (hf : ∃ vs, oe.data = .fields vs) : CallR (X.suite a ((a, oe) :: pn)) (.builtin "isinstance") (rIsErr X.K C a cls d) := by
  intro pins s σ H xs us Q I r h
  obtain ⟨D, dd, b, fs, rfl, rfl, rfl, e, ea, q⟩ := h
  match us, r with
  | _, .cons rx (.cons rt .nil) =>
    cases rx
    cases rt
    obtain ⟨hget, _⟩ := I.pin (a, oe) (List.mem_append.mpr (.inl List.mem_cons_self))
    obtain ⟨vs, hv⟩ := hf
    have hx : ObjOk X.prog X.w H s.heap dd (.xd fs) := I.hok dd _ ea
    obtain ⟨mA, hns, hr⟩ := hx
    obtain ⟨od, ho, hl⟩ := lookIn_ns hns
    have J : PySem.W.InstAt s.heap a oe C (some od) := ⟨hget, hz.1, by unfold PySem.W.notCls; rw [hv] <;> rfl, by rw [hz.2]; exact ho⟩
    obtain ⟨cd, hcd, _⟩ := PySem.W.any_some T.hdC
    exact PySem.W.kia_one (PySem.W.kitx_exc (od := some od) (ox := oe) (by rw [hcd]; rfl) T.ga T.gg T.exC F.ha F.hn F.ht F.hm) I.kIn J e (fun z => nomatch z) fun tk => ⟨.bl b, H, I.kept (t' := tk) fun _ _ z => z, rfl, q⟩
end
end LB

set_option maxRecDepth 100000
set_option maxHeartbeats 2000000
namespace LB
open PySem PySem.Spec PyProof.Rows L2
def top (i : Nat) : Stmt := PySem.Challenge.pw_asforetold_k01_instants.main.body.getD i (.Pass ⟨0, 0, 0, 0⟩)
abbrev sCell : Stmt := top 13
abbrev sDigits : Stmt := top 14
abbrev sDraw : Stmt := top 15
abbrev sAlike : Stmt := top 17
end LB
namespace LB
open PySem
abbrev sCheck : Stmt := top 7
abbrev sNext : Stmt := top 8
abbrev sLater : Stmt := top 9
abbrev sEarliest : Stmt := top 10
abbrev sNotAfter : Stmt := top 11
abbrev sInstant : Stmt := top 16
abbrev sRefused : Stmt := top 18
abbrev sEarlier : Stmt := top 19
abbrev sLaw : Stmt := top 20
end LB

set_option maxRecDepth 100000
set_option maxHeartbeats 4000000
namespace LB
open PySem PySem.Spec PyProof.Rows L2
/-! ### the helpers of a law -/
/-- built-ins' names that the module leaves free -/
structure Names (mg : Str → Option Value) : Prop where
  len : mg "len" = none
  range : mg "range" = none
  int : mg "int" = none
  repr : mg "repr" = none
section
variable {P : Program} {w : World} {K : PySem.W.Frag} {mg : Str → Option Value} {base : Heap}
/-- some int comes back -/
def spCellL (K : PySem.W.Frag) : Sp := fun vs H Q _ => ∃ (a : Addr) (ns : List Int) (k : Int), vs = [.ref a, .int k] ∧ SqL K H a (ns.map V.int) ∧ 0 ≤ k ∧ ∀ c : Int, Q (.int c) H
theorem scCell : FnScope ["script", "k"] ["script", "k"] (defScope sCell) := ⟨rfl, rfl, rfl, by decide +kernel, rfl, by decide +kernel, by decide +kernel⟩
theorem ok_cell {f : Addr} {fd : FuncData} (F : Fun K "_law_cell" "_law_cell" sCell f fd) (M : Names mg) : FnOk P w K mg base CX0 1 f fd ["script", "k"] (spCellL K) := by
  refine F.ok scCell (fun vs H Q E h => ?_) (fun cdv A outer s H vs Q E hr h => ?_)
  · obtain ⟨a, ns, k, rfl, _⟩ := h
    rfl
  · obtain ⟨a, ns, k, rfl, hS, h0, q⟩ := h
    refine ⟨_, (pss_cons (ps_if (pt_cmpR op_lt (pv 1) (pe_callB call_len_seq (by rfl) M.len PySem.boot_len (pa_cons (pv 0) pa_nil)) (nomark _)) (pss_one (ps_ret (pe_ix ix_list (pv 0) (pv 1) (fun _ _ => rfl)))) pss_nil)
        (pss_one (ps_ret pe_int))), ?_⟩
    refine ⟨_, rfl, _, rfl, a, _, rfl, .inl hS, _, _, rfl, rfl, _, rfl, ?_⟩
    refine ite2 (fun c => ?_) (fun c => q 0)
    have lt := of_decide_eq_true c
    rw [List.length_map] at lt
    obtain ⟨j, rfl⟩ : ∃ j : Nat, k = (j : Int) := ⟨k.toNat, by omega⟩
    have hj : j < ns.length := by omega
    exact ⟨_, rfl, _, rfl, a, _, _, _, rfl, rfl, hS, atI_nat (v := V.int ns[j]) (by rw [List.getElem?_map, List.getElem?_eq_getElem hj]; rfl), q _⟩
/-- a number of three digits at most -/
def Dig (i : Int) : Prop := 0 ≤ i ∧ i < 1000
/-- a new list of at most 63 * 60 such numbers -/
def spDigits (K : PySem.W.Frag) : Sp := fun vs H Q _ => ∃ (a : Addr) (ns : List Int) (i j : Int), vs = [.ref a, .int i, .int j] ∧ SqL K H a (ns.map V.int) ∧ 0 ≤ i ∧ i ≤ j ∧ j ≤ 63 ∧
  ∀ (ds : List Int) (H' : Hp) (p : Addr), Same H H' → H p = none → H' p = some (.lst (ds.map V.int)) → (∀ d ∈ ds, Dig d) → ds.length ≤ 3780 → Q (.ref p) H'
theorem scDigits : FnScope ["script", "first", "last", "digits", "k", "cell", "turn", "seed"] ["script", "first", "last"] (defScope sDigits) := ⟨rfl, rfl, rfl, by decide +kernel, rfl, by decide +kernel, by decide +kernel⟩
theorem same_upd {H H' : Hp} {p : Addr} {o : HO} (e : Same H H') (n : H p = none) : Same H (upd H' p o) := fun b u q => by
  rw [upd_ne (ne_of_none q n)]
  exact e b u q
theorem dig_more {c : Int} {ds : List Int} (h : ∀ d ∈ ds, Dig d) : ∀ d ∈ ds ++ [c % 1000], Dig d := by
  intro d hd
  rcases List.mem_append.mp hd with h1 | h1
  · exact h d h1
  · rw [List.mem_singleton.mp h1]
    exact ⟨Int.emod_nonneg _ (by decide), Int.emod_lt_of_pos _ (by decide)⟩
theorem lst_more {ds : List Int} {c : Int} : HO.lst (ds.map V.int ++ [V.int c]) = HO.lst ((ds ++ [c]).map V.int) := by rw [List.map_append] <;> rfl
theorem small_line {n : Nat} (h : n ≤ 4000) : n < sizeLine := Nat.lt_of_le_of_lt h (by decide)
theorem ok_digits {f fC : Addr} {fd fdC : FuncData} (F : Fun K "_law_digits" "_law_digits" sDigits f fd) (M : Names mg) (FC : Fun K "_law_cell" "_law_cell" sCell fC fdC) (mCell : mg "_law_cell" = some (.ref fC)) (bCell : Binds K fdC ["script", "k"] []) :
    FnOk P w K mg base CX0 2 f fd ["script", "first", "last"] (spDigits K) := by
  have GCell : FnOk P w K mg base CX0 1 fC fdC ["script", "k"] (spCellL K) := ok_cell FC M
  have kCell := FC.kp
  refine F.ok scDigits (fun vs H Q E h => ?_) (fun cdv A outer s H vs Q E hr h => ?_)
  · obtain ⟨a, ns, i, j, rfl, _⟩ := h
    rfl
  · obtain ⟨a, ns, i, j, rfl, hS, h0, hij, hj, q⟩ := h
    have nd := scDigits.nd
    refine ⟨_, (pss_cons (ps_set (i := 3) nd rfl (Or.inl rfl) (pe_lst pa_nil))
        (pss_cons (ps_for PassesOwn.never rfl (pi_range2 (by rfl) M.range (pa_cons (pv 1) (pa_cons (pv 2) pa_nil))) (pg_name (i := 4) nd rfl (Or.inl rfl)) (pss_cons (ps_set (i := 5) nd rfl (Or.inl rfl) (pe_call GCell (hr.mono (by decide)) rfl mCell kCell bCell .nil pass0 (pa_cons (pv 0) (pa_cons (pv 4) pa_nil))))
        (pss_cons (ps_if (pt_cmpR op_lt (pv 5) pe_int (nomark _)) (pss_one (ps_set (i := 5) nd rfl (Or.inl rfl) (pe_op op_sub pe_int (pe_op op_mul pe_int (pv 5))))) pss_nil)
        (pss_one (ps_if (pt_cmpR op_ge (pv 5) pe_int (nomark _)) (pss_one (ps_for PassesOwn.never rfl (pi_range1 (by rfl) M.range (pa_cons pe_int pa_nil)) (pg_name (i := 6) nd rfl (Or.inl rfl)) (pss_one (ps_if (pt_cmpR op_gt (pv 5) pe_int (nomark _)) (pss_cons (ps_expr (pe_bm PySem.F.plainAttrs_list PySem.F.slot_list_append PySem.F.type_list_append mt_append (pv 3) (pa_cons (pe_op op_mod (pe_callTy call_int1 (by rfl) M.int (by decide +kernel) (pa_cons (pv 5) pa_nil)) pe_int) pa_nil)))
        (pss_one (ps_set (i := 5) nd rfl (Or.inl rfl) (pe_op op_fdiv (pv 5) pe_int)))) pss_nil)))) (pss_cons (ps_set (i := 7) nd rfl (Or.inl rfl) (pe_op op_mod (pe_callTy call_int1 (by rfl) M.int (by decide +kernel) (pa_cons (pe_op op_add (pe_op op_add (pe_op op_mul (pv 5) pe_int) (pe_op op_mul (pv 4) pe_int)) pe_int) pa_nil)) pe_int))
        (pss_one (ps_for PassesOwn.never rfl (pi_range1 (by rfl) M.range (pa_cons pe_int pa_nil)) (pg_name (i := 6) nd rfl (Or.inl rfl)) (pss_cons (ps_set (i := 7) nd rfl (Or.inl rfl) (pe_op op_mod (pe_callTy call_int1 (by rfl) M.int (by decide +kernel) (pa_cons (pe_op op_add (pe_op op_add (pe_op op_mul (pv 7) pe_int) (pe_op op_mul pe_int (pv 6))) pe_int) pa_nil)) pe_int))
        (pss_one (ps_expr (pe_bm PySem.F.plainAttrs_list PySem.F.slot_list_append PySem.F.type_list_append mt_append (pv 3) (pa_cons (pe_op op_mod (pe_callTy call_int1 (by rfl) M.int (by decide +kernel) (pa_cons (pe_op op_fdiv (pv 7) pe_int) pa_nil)) pe_int) pa_nil)))))))))))))
        (pss_one (ps_ret (pv 3))))), ?_⟩
    refine ⟨(by show 0 ≤ sizeLine; decide), fun p hp => ?_⟩
    refine ⟨_, rfl, _, rfl, i, j, rfl, ⟨by omega, by omega, by omega, by omega⟩, ?_⟩
    refine for_range (lo := i) (n := (j - i).toNat) (fun m σ H' => ∃ (ds : List Int) (v4 v5 v6 v7 : Option V), σ = [some (.ref a), some (.int i), some (.int j), some (.ref p), v4, v5, v6, v7] ∧ Same H H' ∧ H' p = some (.lst (ds.map V.int)) ∧ (∀ d ∈ ds, Dig d) ∧ ds.length ≤ 60 * m)
      ⟨[], none, none, none, none, rfl, same_upd (Same.refl H) hp, upd_same, by simp, by simp⟩ ?_ ?_
    · rintro m σ H' hm ⟨ds, v4, v5, v6, v7, rfl, sm, hl, hd, hlen⟩
      refine ⟨_, rfl, _, rfl, a, ns, _, rfl, sm.seq hS, by omega, fun c => ?_⟩
      refine ⟨_, rfl, _, _, rfl, rfl, _, rfl, ?_⟩
      refine ite2 (fun _ => ?_) (fun _ => ?_)
      · refine ⟨_, rfl, _, _, rfl, rfl, .inl ⟨by decide, by decide⟩, _, _, rfl, rfl, ?_⟩
        generalize (1 : Int) - 2 * c = c'
        (refine ⟨_, rfl, _, _, rfl, rfl, _, rfl, ?_⟩
         refine ite2 (fun _ => ?_) (fun _ => ?_)
         · refine ⟨60, rfl, by decide, by decide, for_range (n := 60) (fun t σ H2 => ∃ (ds : List Int) (c : Int) (v6 : Option V), σ = [some (.ref a), some (.int i), some (.int j), some (.ref p), some (.int (i + m)), some (.int c), v6, v7] ∧ Same H H2 ∧ H2 p = some (.lst (ds.map V.int)) ∧ (∀ d ∈ ds, Dig d) ∧ ds.length ≤ 60 * m + t)
             ⟨ds, _, v6, rfl, sm, hl, hd, by omega⟩ ?_ ?_⟩
           · rintro t σ H2 ht ⟨ds, c, v6, rfl, sm, hl, hd, hlen⟩
             refine ⟨_, rfl, _, _, rfl, rfl, _, rfl, ?_⟩
             refine ite2 (fun _ => ?_) (fun _ => ?_)
             · refine ⟨_, rfl, .inl ⟨rfl, _, SqL.of hl⟩, _, rfl, .inl ⟨_, rfl, _, _, rfl, rfl, (by show (0 : Int) < 1000; decide), p, _, _, rfl, rfl, hl, (by rw [List.length_map]; exact small_line (by omega)), ?_⟩⟩
               refine ⟨_, rfl, _, _, rfl, rfl, ⟨by decide, by decide⟩, ?_⟩
               exact ⟨ds ++ [c % 1000], _, _, rfl, same_upd sm hp, upd_same.trans (congrArg some lst_more), dig_more hd, by rw [List.length_append, List.length_singleton]; omega⟩
             · exact ⟨ds, _, _, rfl, sm, hl, hd, by omega⟩
           · rintro σ H2 ⟨ds, c, v6, rfl, sm, hl, hd, hlen⟩
             exact ⟨ds, _, _, _, _, rfl, sm, hl, hd, by omega⟩
         · refine ⟨_, rfl, _, _, rfl, rfl, .inr ⟨by decide, by decide⟩, _, rfl, _, _, rfl, rfl, .inr ⟨by decide, by decide⟩, _, _, rfl, rfl, _, _, rfl, rfl, .inl ⟨_, rfl, _, _, rfl, rfl, (by show (0 : Int) < 2147483399; decide), ?_⟩⟩
           refine ⟨12, rfl, by decide, by decide, for_range (n := 12) (fun t σ H2 => ∃ (ds : List Int) (c : Int) (v6 : Option V) (s7 : Int), σ = [some (.ref a), some (.int i), some (.int j), some (.ref p), some (.int (i + m)), some (.int c), v6, some (.int s7)] ∧ Same H H2 ∧ H2 p = some (.lst (ds.map V.int)) ∧ (∀ d ∈ ds, Dig d) ∧ ds.length ≤ 60 * m + t)
             ⟨ds, _, v6, _, rfl, sm, hl, hd, by omega⟩ ?_ ?_⟩
           · rintro t σ H2 ht ⟨ds, c, v6, s7, rfl, sm, hl, hd, hlen⟩
             refine ⟨_, rfl, _, _, rfl, rfl, .inr ⟨by decide, by decide⟩, _, rfl, _, _, rfl, rfl, .inl ⟨by decide, by decide⟩, _, _, rfl, rfl, _, _, rfl, rfl, .inl ⟨_, rfl, _, _, rfl, rfl, (by show (0 : Int) < 2147483563; decide), ?_⟩⟩
             refine ⟨_, rfl, .inl ⟨rfl, _, SqL.of hl⟩, _, rfl, _, _, rfl, rfl, ⟨by decide, by decide⟩, .inl ⟨_, rfl, _, _, rfl, rfl, (by show (0 : Int) < 1000; decide), p, _, _, rfl, rfl, hl, (by rw [List.length_map]; exact small_line (by omega)), ?_⟩⟩
             exact ⟨ds ++ [_ % 1000], _, _, _, rfl, same_upd sm hp, upd_same.trans (congrArg some lst_more), dig_more hd, by rw [List.length_append, List.length_singleton]; omega⟩
           · rintro σ H2 ⟨ds, c, v6, s7, rfl, sm, hl, hd, hlen⟩
             exact ⟨ds, _, _, _, _, rfl, sm, hl, hd, by omega⟩)
      · (refine ⟨_, rfl, _, _, rfl, rfl, _, rfl, ?_⟩
         refine ite2 (fun _ => ?_) (fun _ => ?_)
         · refine ⟨60, rfl, by decide, by decide, for_range (n := 60) (fun t σ H2 => ∃ (ds : List Int) (c : Int) (v6 : Option V), σ = [some (.ref a), some (.int i), some (.int j), some (.ref p), some (.int (i + m)), some (.int c), v6, v7] ∧ Same H H2 ∧ H2 p = some (.lst (ds.map V.int)) ∧ (∀ d ∈ ds, Dig d) ∧ ds.length ≤ 60 * m + t)
             ⟨ds, _, v6, rfl, sm, hl, hd, by omega⟩ ?_ ?_⟩
           · rintro t σ H2 ht ⟨ds, c, v6, rfl, sm, hl, hd, hlen⟩
             refine ⟨_, rfl, _, _, rfl, rfl, _, rfl, ?_⟩
             refine ite2 (fun _ => ?_) (fun _ => ?_)
             · refine ⟨_, rfl, .inl ⟨rfl, _, SqL.of hl⟩, _, rfl, .inl ⟨_, rfl, _, _, rfl, rfl, (by show (0 : Int) < 1000; decide), p, _, _, rfl, rfl, hl, (by rw [List.length_map]; exact small_line (by omega)), ?_⟩⟩
               refine ⟨_, rfl, _, _, rfl, rfl, ⟨by decide, by decide⟩, ?_⟩
               exact ⟨ds ++ [c % 1000], _, _, rfl, same_upd sm hp, upd_same.trans (congrArg some lst_more), dig_more hd, by rw [List.length_append, List.length_singleton]; omega⟩
             · exact ⟨ds, _, _, rfl, sm, hl, hd, by omega⟩
           · rintro σ H2 ⟨ds, c, v6, rfl, sm, hl, hd, hlen⟩
             exact ⟨ds, _, _, _, _, rfl, sm, hl, hd, by omega⟩
         · refine ⟨_, rfl, _, _, rfl, rfl, .inr ⟨by decide, by decide⟩, _, rfl, _, _, rfl, rfl, .inr ⟨by decide, by decide⟩, _, _, rfl, rfl, _, _, rfl, rfl, .inl ⟨_, rfl, _, _, rfl, rfl, (by show (0 : Int) < 2147483399; decide), ?_⟩⟩
           refine ⟨12, rfl, by decide, by decide, for_range (n := 12) (fun t σ H2 => ∃ (ds : List Int) (c : Int) (v6 : Option V) (s7 : Int), σ = [some (.ref a), some (.int i), some (.int j), some (.ref p), some (.int (i + m)), some (.int c), v6, some (.int s7)] ∧ Same H H2 ∧ H2 p = some (.lst (ds.map V.int)) ∧ (∀ d ∈ ds, Dig d) ∧ ds.length ≤ 60 * m + t)
             ⟨ds, _, v6, _, rfl, sm, hl, hd, by omega⟩ ?_ ?_⟩
           · rintro t σ H2 ht ⟨ds, c, v6, s7, rfl, sm, hl, hd, hlen⟩
             refine ⟨_, rfl, _, _, rfl, rfl, .inr ⟨by decide, by decide⟩, _, rfl, _, _, rfl, rfl, .inl ⟨by decide, by decide⟩, _, _, rfl, rfl, _, _, rfl, rfl, .inl ⟨_, rfl, _, _, rfl, rfl, (by show (0 : Int) < 2147483563; decide), ?_⟩⟩
             refine ⟨_, rfl, .inl ⟨rfl, _, SqL.of hl⟩, _, rfl, _, _, rfl, rfl, ⟨by decide, by decide⟩, .inl ⟨_, rfl, _, _, rfl, rfl, (by show (0 : Int) < 1000; decide), p, _, _, rfl, rfl, hl, (by rw [List.length_map]; exact small_line (by omega)), ?_⟩⟩
             exact ⟨ds ++ [_ % 1000], _, _, _, rfl, same_upd sm hp, upd_same.trans (congrArg some lst_more), dig_more hd, by rw [List.length_append, List.length_singleton]; omega⟩
           · rintro σ H2 ⟨ds, c, v6, s7, rfl, sm, hl, hd, hlen⟩
             exact ⟨ds, _, _, _, _, rfl, sm, hl, hd, by omega⟩)
    · rintro σ H' ⟨ds, v4, v5, v6, v7, rfl, sm, hl, hd, hlen⟩
      exact ⟨_, rfl, q ds H' p sm hp hl hd (by omega)⟩
end
end LB

set_option maxRecDepth 100000
set_option maxHeartbeats 4000000
namespace LB
open PySem PySem.Spec PyProof.Rows L2
/-! ### the box of draws -/
/-- at b: a list of the digits' list and of a place -/
def Box (H : Hp) (b : Addr) : Prop := ∃ (l : Addr) (ds : List Int) (n : Int), H b = some (.lst [.ref l, .int n]) ∧ H l = some (.lst (ds.map V.int)) ∧ b ≠ l ∧ 0 ≤ n ∧ ds.length ≤ 3780
/-- all stands but what is at b -/
def But (b : Addr) (H H' : Hp) : Prop := ∀ a o, a ≠ b → H a = some o → H' a = some o
theorem But.refl (b : Addr) (H : Hp) : But b H H := fun _ _ _ q => q
theorem But.trans {b : Addr} {H H1 H2 : Hp} (x : But b H H1) (y : But b H1 H2) : But b H H2 := fun a o n q => y a o n (x a o n q)
theorem But.of {b : Addr} {H H' : Hp} (e : Same H H') : But b H H' := fun a o _ q => e a o q
theorem But.new {b : Addr} {H H' : Hp} {p : Addr} {o : HO} (x : But b H H') (n : H' p = none) : But b H (upd H' p o) := fun a u na q => by
  have q' := x a u na q
  rw [upd_ne (ne_of_none q' n)]
  exact q'
theorem But.seqT {K : PySem.W.Frag} {b : Addr} {H H' : Hp} {a : Addr} {xs : List V} (x : But b H H') (ne : ∀ ys, H b ≠ some (.tup ys)) (nf : ∀ o u, H b ≠ some (.frz o u)) (h : SqT K H a xs) : SqT K H' a xs := by
  rcases h with (h | ⟨o, h⟩) | h
  · exact .inl (.inl (x a _ (fun z => ne _ (z ▸ h)) h))
  · exact .inl (.inr ⟨o, x a _ (fun z => nf _ _ (z ▸ h)) h⟩)
  · exact .inr h
theorem Box.ne {H : Hp} {b : Addr} (B : Box H b) : (∀ ys, H b ≠ some (.tup ys)) ∧ ∀ o u, H b ≠ some (.frz o u) := by
  obtain ⟨l, ds, n, h, _⟩ := B
  rw [h]
  exact ⟨fun ys z => (by cases z), fun o u z => (by cases z)⟩
theorem Box.tup {K : PySem.W.Frag} {b : Addr} {H H' : Hp} {a : Addr} {xs : List V} (B : Box H b) (x : But b H H') (h : SqT K H a xs) : SqT K H' a xs := x.seqT B.ne.1 B.ne.2 h
theorem Box.new {H : Hp} {b p : Addr} {o : HO} (B : Box H b) (n : H p = none) : Box (upd H p o) b := by
  obtain ⟨l, ds, k, h, hl, r⟩ := B
  exact ⟨l, ds, k, by rw [upd_ne (ne_of_none h n)]; exact h, by rw [upd_ne (ne_of_none hl n)]; exact hl, r⟩
section
variable {P : Program} {w : World} {K : PySem.W.Frag} {mg : Str → Option Value} {base : Heap}
def spDraw (K : PySem.W.Frag) : Sp := fun vs H Q _ => ∃ (b : Addr) (m : Int), vs = [.ref b, .int m] ∧ Box H b ∧ 0 < m ∧ ∀ (r : Int) (H' : Hp), 0 ≤ r → r < m → Box H' b → But b H H' → Q (.int r) H'
theorem scDraw : FnScope ["box", "many", "at"] ["box", "many"] (defScope sDraw) := ⟨rfl, rfl, rfl, by decide +kernel, rfl, by decide +kernel, by decide +kernel⟩
theorem ok_draw {f : Addr} {fd : FuncData} (F : Fun K "_law_draw" "_law_draw" sDraw f fd) (M : Names mg) : FnOk P w K mg base CX0 1 f fd ["box", "many"] (spDraw K) := by
  refine F.ok scDraw (fun vs H Q E h => ?_) (fun cdv A outer s H vs Q E hr h => ?_)
  · obtain ⟨b, m, rfl, _⟩ := h
    rfl
  · obtain ⟨b, m, rfl, ⟨l, ds, n, hb, hl, ne, h0, hlen⟩, hm, q⟩ := h
    have nd := scDraw.nd
    refine ⟨_, (pss_cons (ps_set (i := 2) nd rfl (Or.inl rfl) (pe_ix ix_list (pv 0) pe_int (fun _ _ => rfl)))
        (pss_cons (ps_asg (pe_op op_add (pv 2) pe_int) (pg_sub (pv 0) pe_int set_list))
        (pss_cons (ps_if (pt_cmpR op_lt (pv 2) (pe_callB call_len_seq (by rfl) M.len PySem.boot_len (pa_cons (pe_ix ix_list (pv 0) pe_int (fun _ _ => rfl)) pa_nil)) (nomark _)) (pss_one (ps_ret (pe_op op_mod (pe_callTy call_int1 (by rfl) M.int (by decide +kernel) (pa_cons (pe_ix ix_list (pe_ix ix_list (pv 0) pe_int (fun _ _ => rfl)) (pv 2) (fun _ _ => rfl)) pa_nil)) (pv 1)))) pss_nil)
        (pss_one (ps_ret (pe_op op_mod (pe_callTy call_int1 (by rfl) M.int (by decide +kernel) (pa_cons (pe_op op_add (pe_op op_mul (pv 2) pe_int) pe_int) pa_nil)) (pv 1))))))), ?_⟩
    refine ⟨_, rfl, b, _, _, _, rfl, rfl, SqL.of hb, rfl, ?_⟩
    refine ⟨_, rfl, _, _, rfl, rfl, _, rfl, b, _, _, 1, rfl, rfl, hb, rfl, ?_⟩
    have hb' : upd H b (.lst [.ref l, .int (n + 1)]) b = some (.lst [.ref l, .int (n + 1)]) := upd_same
    have hl' : upd H b (.lst [.ref l, .int (n + 1)]) l = some (.lst (ds.map V.int)) := by rw [upd_ne ne.symm]; exact hl
    have B : Box (upd H b (.lst [.ref l, .int (n + 1)])) b := ⟨l, ds, n + 1, hb', hl', ne, by omega, hlen⟩
    have U : But b H (upd H b (.lst [.ref l, .int (n + 1)])) := fun a o na z => by rw [upd_ne na]; exact z
    refine ⟨_, rfl, _, rfl, b, _, _, _, rfl, rfl, SqL.of hb', rfl, l, _, rfl, .inl (SqL.of hl'), _, _, rfl, rfl, _, rfl, ?_⟩
    refine ite2 (fun c => ?_) (fun c => ?_)
    · have lt := of_decide_eq_true c
      rw [List.length_map] at lt
      obtain ⟨j, rfl⟩ : ∃ j : Nat, n = (j : Int) := ⟨n.toNat, by omega⟩
      have hj : j < ds.length := by omega
      refine ⟨_, rfl, b, _, _, _, rfl, rfl, SqL.of hb', rfl, _, rfl, l, _, _, _, rfl, rfl, SqL.of hl', atI_nat (v := V.int ds[j]) (by rw [List.getElem?_map, List.getElem?_eq_getElem hj]; rfl), .inl ⟨_, rfl, _, rfl, _, _, rfl, rfl, hm, ?_⟩⟩
      exact q _ _ (Int.emod_nonneg _ (by omega)) (Int.emod_lt_of_pos _ hm) B U
    · refine ⟨_, rfl, _, _, rfl, rfl, .inr ⟨by decide, by decide⟩, _, _, rfl, rfl, .inl ⟨_, rfl, _, rfl, _, _, rfl, rfl, hm, ?_⟩⟩
      exact q _ _ (Int.emod_nonneg _ (by omega)) (Int.emod_lt_of_pos _ hm) B U
theorem scAlike : FnScope ["one", "two"] ["one", "two"] (defScope sAlike) := ⟨rfl, rfl, rfl, by decide +kernel, rfl, by decide +kernel, by decide +kernel⟩
theorem ok_alike {f : Addr} {fd : FuncData} (F : Fun K "_law_alike" "_law_alike" sAlike f fd) (M : Names mg) : FnG P w K mg base CX0 1 f fd ["one", "two"] (spAlike K) := by
  refine FnG.of_fun F scAlike (fun vs H Q E h => ?_) (fun cdv A outer s H vs Q E gf hr h => ?_)
  · obtain ⟨x, y, d, rfl, _⟩ := h
    rfl
  · obtain ⟨x, y, d, rfl, hx, hy, S, q⟩ := h
    refine ⟨_, (pss_one (ps_ret (pe_cmpR op_eq (pe_callB (call_repr gf hr.units) (by rfl) M.repr PyProof.Rows.boot_repr (pa_cons (pv 0) pa_nil)) (pe_callB (call_repr gf hr.units) (by rfl) M.repr PyProof.Rows.boot_repr (pa_cons (pv 1) pa_nil)) (nomark _)))), ?_⟩
    refine ⟨_, rfl, x, d, rfl, hx, S, _, rfl, y, d, rfl, hy, S, rfl, ?_⟩
    show Q (V.bl (decide (V.str d.shown = V.str d.shown))) _
    rw [decide_eq_true rfl]
    exact q
end
end LB

set_option maxRecDepth 100000
set_option maxHeartbeats 4000000
namespace LB
open PySem PySem.Spec PyProof.Rows L2
/-! ### instants -/
abbrev Ins := Int × Int
/-- v is this instant, or None -/
def At (K : PySem.W.Frag) (H : Hp) (v : V) : Option Ins → Prop
  | none => v = .non
  | some p => ∃ a, v = .ref a ∧ SqT K H a [.int p.1, .int p.2]
def leI (p q : Ins) : Bool := decide (p.1 < q.1 ∨ (p.1 = q.1 ∧ p.2 ≤ q.2))
def notAfter (o q : Option Ins) : Bool := match q with
  | none => true
  | some y => match o with
    | none => false
    | some x => leI x y
def earlier (o q : Option Ins) : Option Ins := if notAfter o q = true then o else q
def laterP (p : Ins) (k : Int) : Ins := if k = 0 then p else (p.1 + k, 0)
theorem lex_leI (p q : Ins) : Ob.lexAt (fun j => decide (([p.1, p.2] : List Int).getD j 0 = ([q.1, q.2] : List Int).getD j 0)) (fun j => decide (([p.1, p.2] : List Int).getD j 0 ≤ ([q.1, q.2] : List Int).getD j 0)) (decide (([p.1, p.2] : List Int).length ≤ ([q.1, q.2] : List Int).length)) 0 (min ([p.1, p.2] : List Int).length ([q.1, q.2] : List Int).length) = leI p q := by
  obtain ⟨a, b⟩ := p
  obtain ⟨c, d⟩ := q
  show (if decide (a = c) = true then (if decide (b = d) = true then true else decide (b ≤ d)) else decide (a ≤ c)) = decide (a < c ∨ (a = c ∧ b ≤ d))
  by_cases h1 : a = c
  · rw [if_pos (decide_eq_true h1)]
    by_cases h2 : b = d
    · rw [if_pos (decide_eq_true h2)]
      exact (decide_eq_true (by omega)).symm
    · rw [if_neg (by simpa using h2)]
      by_cases h3 : b ≤ d
      · rw [decide_eq_true h3]
        exact (decide_eq_true (by omega)).symm
      · rw [decide_eq_false h3]
        exact (decide_eq_false (by omega)).symm
  · rw [if_neg (by simpa using h1)]
    by_cases h3 : a ≤ c
    · rw [decide_eq_true h3]
      exact (decide_eq_true (by omega)).symm
    · rw [decide_eq_false h3]
      exact (decide_eq_false (by omega)).symm
theorem At.but {K : PySem.W.Frag} {b : Addr} {H H' : Hp} {v : V} {o : Option Ins} (B : Box H b) (x : But b H H') (h : At K H v o) : At K H' v o := by
  cases o with
  | none => exact h
  | some p =>
    obtain ⟨a, e, q⟩ := h
    exact ⟨a, e, B.tup x q⟩
theorem At.new {K : PySem.W.Frag} {H : Hp} {a : Addr} {v : V} {o : Option Ins} {u : HO} (n : H a = none) (h : At K H v o) : At K (upd H a u) v o := by
  cases o with
  | none => exact h
  | some p =>
    obtain ⟨c, e, q⟩ := h
    refine ⟨c, e, ?_⟩
    rcases q with (q | ⟨ob, q⟩) | q
    · exact .inl (.inl (by rw [upd_ne (ne_of_none q n)]; exact q))
    · exact .inl (.inr ⟨ob, by rw [upd_ne (ne_of_none q n)]; exact q⟩)
    · exact .inr q
theorem At.made {K : PySem.W.Frag} {H : Hp} {a : Addr} {t r : Int} : At K (upd H a (.tup [.int t, .int r])) (.ref a) (some (t, r)) := ⟨a, rfl, SqT.of upd_same⟩
section
variable {P : Program} {w : World} {K : PySem.W.Frag} {mg : Str → Option Value} {base : Heap}
/-- an instant, and ticks -/
def spLater (K : PySem.W.Frag) : Sp := fun vs H Q _ => ∃ (x : V) (p : Ins) (k : Int), vs = [x, .int k] ∧ At K H x (some p) ∧
  (k = 0 → Q x H) ∧ (k ≠ 0 → ∀ a, H a = none → Q (.ref a) (upd H a (.tup [.int (p.1 + k), .int 0])))
theorem scLater : FnScope ["instant", "ticks", "time", "_"] ["instant", "ticks"] (defScope sLater) := ⟨rfl, rfl, rfl, by decide +kernel, rfl, by decide +kernel, by decide +kernel⟩
theorem ok_later {f : Addr} {fd : FuncData} (F : Fun K "later" "later" sLater f fd) : FnOk P w K mg base CX0 1 f fd ["instant", "ticks"] (spLater K) := by
  refine F.ok scLater (fun vs H Q E h => ?_) (fun cdv A outer s H vs Q E hr h => ?_)
  · obtain ⟨x, p, k, rfl, _⟩ := h
    rfl
  · obtain ⟨x, p, k, rfl, ⟨a, rfl, ha⟩, q0, q1⟩ := h
    have nd := scLater.nd
    refine ⟨_, (pss_cons (ps_asg (pv 0) (pg_tup (by rfl) (pgs_cons (pg_name (i := 2) nd rfl (Or.inl rfl)) (pgs_cons (pg_name (i := 3) nd rfl (Or.inl rfl)) pgs_nil))))
        (pss_cons (ps_if (pt_cmpR op_eq (pv 1) pe_int (nomark _)) (pss_one (ps_ret (pv 0))) pss_nil)
        (pss_one (ps_ret (pe_tup (pa_cons (pe_op op_add (pv 2) (pv 1)) (pa_cons pe_int pa_nil))))))), ?_⟩
    refine ⟨_, rfl, a, _, rfl, ha, rfl, _, _, rfl, _, _, rfl, rfl, ?_⟩
    refine ⟨_, rfl, rfl, _, rfl, ite2 (fun c => ?_) (fun c => ?_)⟩
    · have e := of_decide_eq_true c
      cases e
      exact ⟨_, rfl, q0 rfl⟩
    · have e : k ≠ 0 := fun z => c (decide_eq_true (by rw [z]))
      exact ⟨_, rfl, _, rfl, _, _, rfl, rfl, (by show 2 ≤ sizeLine; decide), fun p hp => q1 e p hp⟩
def spNext (K : PySem.W.Frag) : Sp := fun vs H Q _ => ∃ (x : V) (p : Ins), vs = [x] ∧ At K H x (some p) ∧ ∀ a, H a = none → Q (.ref a) (upd H a (.tup [.int p.1, .int (p.2 + 1)]))
theorem scNext : FnScope ["instant", "time", "turn"] ["instant"] (defScope sNext) := ⟨rfl, rfl, rfl, by decide +kernel, rfl, by decide +kernel, by decide +kernel⟩
theorem ok_next {f : Addr} {fd : FuncData} (F : Fun K "next_instant" "next_instant" sNext f fd) : FnOk P w K mg base CX0 1 f fd ["instant"] (spNext K) := by
  refine F.ok scNext (fun vs H Q E h => ?_) (fun cdv A outer s H vs Q E hr h => ?_)
  · obtain ⟨x, p, rfl, _⟩ := h
    rfl
  · obtain ⟨x, p, rfl, ⟨a, rfl, ha⟩, q⟩ := h
    have nd := scNext.nd
    refine ⟨_, (pss_cons (ps_asg (pv 0) (pg_tup (by rfl) (pgs_cons (pg_name (i := 1) nd rfl (Or.inl rfl)) (pgs_cons (pg_name (i := 2) nd rfl (Or.inl rfl)) pgs_nil))))
        (pss_one (ps_ret (pe_tup (pa_cons (pv 1) (pa_cons (pe_op op_add (pv 2) pe_int) pa_nil)))))), ?_⟩
    refine ⟨_, rfl, a, _, rfl, ha, rfl, _, _, rfl, _, _, rfl, rfl, ?_⟩
    exact ⟨_, rfl, _, rfl, _, _, rfl, rfl, (by show 2 ≤ sizeLine; decide), fun p hp => q p hp⟩
def spNotAfter (K : PySem.W.Frag) : Sp := fun vs H Q _ => ∃ (x y : V) (o q : Option Ins), vs = [x, y] ∧ At K H x o ∧ At K H y q ∧ Q (.bl (notAfter o q)) H
theorem scNotAfter : FnScope ["instant", "cancel"] ["instant", "cancel"] (defScope sNotAfter) := ⟨rfl, rfl, rfl, by decide +kernel, rfl, by decide +kernel, by decide +kernel⟩
theorem ok_notafter {f : Addr} {fd : FuncData} (F : Fun K "not_after" "not_after" sNotAfter f fd) : FnOk P w K mg base CX0 1 f fd ["instant", "cancel"] (spNotAfter K) := by
  refine F.ok scNotAfter (fun vs H Q E h => ?_) (fun cdv A outer s H vs Q E hr h => ?_)
  · obtain ⟨x, y, o, q, rfl, _⟩ := h
    rfl
  · obtain ⟨x, y, o, q, rfl, hx, hy, k⟩ := h
    refine ⟨_, (pss_cons (ps_if (pt_cmpR op_isN (pv 1) pe_non (nomark _)) (pss_one (ps_ret pe_bl)) pss_nil)
        (pss_one (ps_ret (pe_and (pe_cmpR op_notN (pv 0) pe_non (nomark _)) (pe_one (pe_cmpR (op_leT hr.units0) (pv 0) (pv 1) (nomark _))))))), ?_⟩
    refine ⟨_, rfl, rfl, _, rfl, ?_⟩
    cases q with
    | none =>
      cases hy
      exact iteT k
    | some q =>
      obtain ⟨b, rfl, hb⟩ := hy
      refine iteF ⟨_, rfl, rfl, _, rfl, ?_⟩
      cases o with
      | none =>
        cases hx
        exact k
      | some o =>
        obtain ⟨a, rfl, ha⟩ := hx
        refine ⟨_, rfl, _, rfl, a, b, [o.1, o.2], [q.1, q.2], rfl, rfl, ha, hb, ?_⟩
        rw [lex_leI]
        exact k
/-- the earlier one of two, as a value that is that -/
def spEarlier (K : PySem.W.Frag) : Sp := fun vs H Q _ => ∃ (x y : V) (o q : Option Ins), vs = [x, y] ∧ At K H x o ∧ At K H y q ∧ ∀ v, At K H v (earlier o q) → (v = x ∨ v = y) → Q v H
theorem scEarliest : FnScope ["one", "two"] ["one", "two"] (defScope sEarliest) := ⟨rfl, rfl, rfl, by decide +kernel, rfl, by decide +kernel, by decide +kernel⟩
theorem ok_earliest {f fN : Addr} {fd fdN : FuncData} (F : Fun K "earliest" "earliest" sEarliest f fd) (FN : Fun K "not_after" "not_after" sNotAfter fN fdN) (mN : mg "not_after" = some (.ref fN)) (bN : Binds K fdN ["instant", "cancel"] []) :
    FnOk P w K mg base CX0 2 f fd ["one", "two"] (spEarlier K) := by
  have GN : FnOk P w K mg base CX0 1 fN fdN ["instant", "cancel"] (spNotAfter K) := ok_notafter FN
  have kN := FN.kp
  refine F.ok scEarliest (fun vs H Q E h => ?_) (fun cdv A outer s H vs Q E hr h => ?_)
  · obtain ⟨x, y, o, q, rfl, _⟩ := h
    rfl
  · obtain ⟨x, y, o, q, rfl, hx, hy, k⟩ := h
    refine ⟨_, (pss_cons (ps_if (pt_val (pe_call GN (hr.mono (by decide)) rfl mN kN bN .nil pass0 (pa_cons (pv 0) (pa_cons (pv 1) pa_nil)))) (pss_one (ps_ret (pv 0))) pss_nil)
        (pss_one (ps_ret (pv 1)))), ?_⟩
    refine ⟨_, rfl, _, rfl, x, y, o, q, rfl, hx, hy, _, rfl, ?_⟩
    refine ite2 (fun c => ?_) (fun c => ?_)
    · exact ⟨_, rfl, k x (by unfold earlier; rw [if_pos c]; exact hx) (.inl rfl)⟩
    · exact ⟨_, rfl, k y (by unfold earlier; rw [if_neg c]; exact hy) (.inr rfl)⟩
theorem scEarlier : FnScope ["one", "two"] ["one", "two"] (defScope sEarlier) := ⟨rfl, rfl, rfl, by decide +kernel, rfl, by decide +kernel, by decide +kernel⟩
theorem ok_earlier {f : Addr} {fd : FuncData} (F : Fun K "_law_earlier" "_law_earlier" sEarlier f fd) : FnOk P w K mg base CX0 1 f fd ["one", "two"] (spEarlier K) := by
  refine F.ok scEarlier (fun vs H Q E h => ?_) (fun cdv A outer s H vs Q E hr h => ?_)
  · obtain ⟨x, y, o, q, rfl, _⟩ := h
    rfl
  · obtain ⟨x, y, o, q, rfl, hx, hy, k⟩ := h
    refine ⟨_, (pss_cons (ps_if (pt_cmpR op_isN (pv 0) pe_non (nomark _)) (pss_one (ps_ret (pv 1))) pss_nil)
        (pss_cons (ps_if (PW.pt (pw_or (pt_cmpR op_isN (pv 1) pe_non (nomark _)) (pw_or1 (pt_cmpR op_lt (pe_ix ix_tup (pv 0) pe_int (fun _ _ => rfl)) (pe_ix ix_tup (pv 1) pe_int (fun _ _ => rfl)) (nomark _))))) (pss_one (ps_ret (pv 0))) pss_nil)
        (pss_cons (ps_if (PW.pt (pw_and (pt_cmpR op_eq (pe_ix ix_tup (pv 0) pe_int (fun _ _ => rfl)) (pe_ix ix_tup (pv 1) pe_int (fun _ _ => rfl)) (nomark _)) (pw_and1 (pt_cmpR op_le (pe_ix ix_tup (pv 0) pe_int (fun _ _ => rfl)) (pe_ix ix_tup (pv 1) pe_int (fun _ _ => rfl)) (nomark _))))) (pss_one (ps_ret (pv 0))) pss_nil)
        (pss_one (ps_ret (pv 1)))))), ?_⟩
    refine ⟨_, rfl, rfl, _, rfl, ?_⟩
    cases o with
    | none =>
      cases hx
      refine iteT ⟨_, rfl, k y ?_ (.inr rfl)⟩
      cases q with
      | none => exact hy
      | some q => exact hy
    | some o =>
      obtain ⟨a, rfl, ha⟩ := hx
      refine iteF ⟨_, rfl, rfl, _, rfl, ?_⟩
      cases q with
      | none =>
        cases hy
        exact iteT ⟨_, rfl, k _ ⟨a, rfl, ha⟩ (.inl rfl)⟩
      | some q =>
        obtain ⟨b, rfl, hb⟩ := hy
        have one : leI o q = true → At K H (.ref a) (earlier (some o) (some q)) := fun c => by
          unfold earlier
          rw [if_pos (show notAfter (some o) (some q) = true from c)]
          exact ⟨a, rfl, ha⟩
        have two : ¬ leI o q = true → At K H (.ref b) (earlier (some o) (some q)) := fun c => by
          unfold earlier
          rw [if_neg (show ¬ notAfter (some o) (some q) = true from c)]
          exact ⟨b, rfl, hb⟩
        refine iteF ⟨_, rfl, a, _, _, _, rfl, rfl, ha, rfl, _, rfl, b, _, _, _, rfl, rfl, hb, rfl, _, _, rfl, rfl, _, rfl, ?_⟩
        refine ite2 (fun c => ?_) (fun c => ?_)
        · have c' := of_decide_eq_true c
          exact ⟨_, rfl, k _ (one (decide_eq_true (.inl c'))) (.inl rfl)⟩
        · have c' : ¬ o.1 < q.1 := fun z => c (decide_eq_true z)
          refine ⟨_, rfl, a, _, _, _, rfl, rfl, ha, rfl, _, rfl, b, _, _, _, rfl, rfl, hb, rfl, rfl, _, rfl, ?_⟩
          refine ite2 (fun d => ?_) (fun d => ?_)
          · have d' : o.1 = q.1 := V.int.inj (of_decide_eq_true d)
            refine ⟨_, rfl, a, _, _, _, rfl, rfl, ha, rfl, _, rfl, b, _, _, _, rfl, rfl, hb, rfl, _, _, rfl, rfl, _, rfl, ?_⟩
            refine ite2 (fun e => ?_) (fun e => ?_)
            · have e' := of_decide_eq_true e
              exact ⟨_, rfl, k _ (one (decide_eq_true (.inr ⟨d', e'⟩))) (.inl rfl)⟩
            · have e' : ¬ o.2 ≤ q.2 := fun z => e (decide_eq_true z)
              exact ⟨_, rfl, k _ (two fun z => by have z' := of_decide_eq_true z; omega) (.inr rfl)⟩
          · have d' : ¬ o.1 = q.1 := fun z => d (decide_eq_true (congrArg V.int z))
            exact ⟨_, rfl, k _ (two fun z => by have z' := of_decide_eq_true z; omega) (.inr rfl)⟩
end
end LB

set_option maxRecDepth 100000
set_option maxHeartbeats 4000000
namespace LB
open PySem PySem.Spec PyProof.Rows L2
/-! ### check_instant and what is refused -/
/-- what the top says of the errors and the bounds -/
structure Errs (K : PySem.W.Frag) (mg : Str → Option Value) (prog : Program) (B C T fI cc cda : Addr) : Prop where
  oor : Oor K mg prog "OutOfRange" C fI cc cda
  isF : IsF K C
  gB : mg "ForetoldError" = some (.ref B)
  gT : mg "TextFault" = some (.ref T)
  exB : PySem.W.exmOne K (.ref C) (.ref B) = some true
  k1 : PySem.W.kitOne K (.ref C) (.ref C) = some true
  k2 : PySem.W.kitOne K (.ref C) (.ref T) = some false
  isi : mg "isinstance" = none
  tm : ∃ t, mg "TIME_MOST" = some (.int 1000000 t)
  rm : ∃ t, mg "ROUND_MOST" = some (.int 1000 t)
def Good (p : Ins) : Prop := (0 ≤ p.1 ∧ p.1 ≤ 1000000) ∧ (0 ≤ p.2 ∧ p.2 ≤ 1000)
section
variable {P : Program} {w : World} {K : PySem.W.Frag} {mg : Str → Option Value} {base : Heap} {B C T' fI cc cda : Addr}
def spCheck (K : PySem.W.Frag) (C : Addr) : Sp := fun vs H Q E => ∃ (x : V) (p : Ins) (z : Str), vs = [x, .str z] ∧ At K H x (some p) ∧ z.length ≤ 1000 ∧ (Good p → Q .non H) ∧
  (¬ Good p → ∀ d : Addr, H d = none → E (.ref C) (some d) (upd H d (.xd [(("name" : Str), .str z)])))
theorem scCheck : FnScope ["instant", "what", "time", "turn"] ["instant", "what"] (defScope sCheck) := ⟨rfl, rfl, rfl, by decide +kernel, rfl, by decide +kernel, by decide +kernel⟩
theorem ok_check {f : Addr} {fd : FuncData} (F : FunD K "check_instant" "check_instant" (defArgs sCheck) (defBody sCheck) (defScope sCheck) [.str "instant"] [] f fd) (T : Errs K mg P B C T' fI cc cda) :
    FnOk P w K mg base (L2.CX P w) 2 f fd ["instant", "what"] (spCheck K C) := by
  obtain ⟨tt, tm⟩ := T.tm
  obtain ⟨rt, rm⟩ := T.rm
  refine F.ok (CX := L2.CX P w) scCheck (fun vs H Q E h => ?_) (fun cdv A outer s H vs Q E hr h => ?_)
  · obtain ⟨x, p, z, rfl, _⟩ := h
    rfl
  · obtain ⟨x, p, z, rfl, ⟨a, rfl, ha⟩, hz, q1, q2⟩ := h
    have nd := scCheck.nd
    refine ⟨_, (pss_cons (ps_asg (pv 0) (pg_tup (by rfl) (pgs_cons (pg_name (i := 2) nd rfl (Or.inl rfl)) (pgs_cons (pg_name (i := 3) nd rfl (Or.inl rfl)) pgs_nil))))
        (pss_one (ps_if (PW.pt (pw_or (pt_not (pt_chain op_le op_le pe_int (pv 2) (pe_glob (v := .int 1000000) rfl tm ⟨_, rfl⟩))) (pw_or1 (pt_not (pt_chain op_le op_le pe_int (pv 3) (pe_glob (v := .int 1000) rfl rm ⟨_, rfl⟩)))))) (pss_one (ps_raiseErr (W := fun cls d _ H' => E cls d H') rfl T.oor hr (takes_of rfl rfl rfl rfl) (pa_cons (pv 1) pa_nil) rfl (by decide))) pss_nil))), ?_⟩
    refine ⟨_, rfl, a, _, rfl, ha, rfl, _, _, rfl, _, _, rfl, rfl, ?_⟩
    refine ⟨_, rfl, _, _, rfl, rfl, _, rfl, ite2 (fun c1 => ?_) (fun c1 => ?_)⟩
    · have c1' := of_decide_eq_true c1
      refine ⟨_, _, rfl, rfl, _, rfl, ite2 (fun c2 => ?_) (fun c2 => ?_)⟩
      · have c2' : ¬ p.1 ≤ 1000000 := by simpa using c2
        exact iteT ⟨_, rfl, z, rfl, hz, q2 fun g => c2' g.1.2⟩
      · have c2' : p.1 ≤ 1000000 := by simpa using c2
        refine ⟨_, rfl, _, _, rfl, rfl, _, rfl, ite2 (fun c3 => ?_) (fun c3 => ?_)⟩
        · have c3' := of_decide_eq_true c3
          refine ⟨_, _, rfl, rfl, _, rfl, ite2 (fun c4 => ?_) (fun c4 => ?_)⟩
          · have c4' : ¬ p.2 ≤ 1000 := by simpa using c4
            exact ⟨_, rfl, z, rfl, hz, q2 fun g => c4' g.2.2⟩
          · have c4' : p.2 ≤ 1000 := by simpa using c4
            exact q1 ⟨⟨c1', c2'⟩, ⟨c3', c4'⟩⟩
        · have c3' : ¬ 0 ≤ p.2 := fun y => c3 (decide_eq_true y)
          exact ⟨_, rfl, iteT ⟨_, rfl, z, rfl, hz, q2 fun g => c3' g.2.1⟩⟩
    · have c1' : ¬ 0 ≤ p.1 := fun y => c1 (decide_eq_true y)
      exact ⟨_, rfl, iteT (iteT ⟨_, rfl, z, rfl, hz, q2 fun g => c1' g.1.1⟩)⟩
/-- what comes of a check, told as a tuple or None -/
def spRefused (K : PySem.W.Frag) : Sp := fun vs H Q _ => ∃ (x : V) (p : Ins) (z : Str), vs = [x, .str z] ∧ At K H x (some p) ∧ z.length ≤ 1000 ∧ (Good p → ∀ H', Same H H' → Q .non H') ∧
  (¬ Good p → ∀ (a : Addr) (H' : Hp), Same H H' → H' a = some (.tup [.str "refused", .str (if z = "" then ("instant" : Str) else z)]) → Q (.ref a) H')
theorem scRefused : FnScope ["instant", "what", "told", "e"] ["instant", "what"] (defScope sRefused) := ⟨rfl, rfl, rfl, by decide +kernel, rfl, by decide +kernel, by decide +kernel⟩
theorem ok_refused {f fK : Addr} {fd fdK : FuncData} {dv : List Value} (F : Fun K "_law_refused" "_law_refused" sRefused f fd) (FK : FunD K "check_instant" "check_instant" (defArgs sCheck) (defBody sCheck) (defScope sCheck) [.str "instant"] [] fK fdK)
    (mK : mg "check_instant" = some (.ref fK)) (b1 : Binds K fdK ["instant", "what"] dv) (v1 : Vals [V.str "instant"] dv) (b2 : Binds K fdK ["instant", "what"] []) (T : Errs K mg P B C T' fI cc cda) : FnOk P w K mg base CX0 3 f fd ["instant", "what"] (spRefused K) := by
  have GK : FnOk P w K mg base (L2.CX P w) 2 fK fdK ["instant", "what"] (spCheck K C) := ok_check FK T
  have kK := FK.kp
  refine F.ok scRefused (fun vs H Q E h => ?_) (fun cdv A outer s H vs Q E hr h => ?_)
  · obtain ⟨x, p, z, rfl, _⟩ := h
    rfl
  · obtain ⟨x, p, z, rfl, hx, hz, q1, q2⟩ := h
    have nd := scRefused.nd
    refine ⟨_, pss_cons (ps_try_as (i := 3) (Wout := fun _ _ _ _ => False) rfl rfl nd rfl rfl ⟨rfl, by decide, Or.inl T.gB⟩ takes0
        (fun W pn xe tk _ => pss_one (ps_if (pt_cmpR op_eq (pv 1) pe_str (nomark _))
          (pss_one (ps_set (i := 2) nd rfl (Or.inl rfl) (pe_callSD (E := WE W) GK (hr.mono (by decide)) rfl mK kK b1 v1 (fun σ => passAt tk σ) (pa_cons (pv 0) pa_nil))))
          (pss_one (ps_set (i := 2) nd rfl (Or.inl rfl) (pe_callSD (E := WE W) GK (hr.mono (by decide)) rfl mK kK b2 .nil (fun σ => passAt tk σ) (pa_cons (pv 0) (pa_cons (pv 1) pa_nil)))))))
        (fun a oe cls d pn hz hf => pss_cons (ps_if (PW.pt (pw_and (pt_val (pe_callB (call_isErr T.oor T.isF hz hf) (by rfl) T.isi PyProof.Rows.boot_isinstance (pa_cons (pv 3) (pa_cons (pe_glob (v := .ref C) rfl T.oor.gC rfl) pa_nil))))
            (pw_and1 (pt_not (pt_val (pe_callB (call_isErr T.oor T.isF hz hf) (by rfl) T.isi PyProof.Rows.boot_isinstance (pa_cons (pv 3) (pa_cons (pe_glob (v := .ref T') rfl T.gT rfl) pa_nil))))))))
            (pss_one (ps_ret (pe_tup (pa_cons pe_str (pa_cons (pe_errName T.oor hz hf (pv 3)) pa_nil))))) pss_nil)
          (pss_one (ps_ret (pe_tup (pa_cons pe_str (pa_cons pe_int pa_nil)))))))
      (pss_one (ps_ret (pv 2))), ?_⟩
    -- the suite, the error's name y
    have fin : ∀ (y : Str) (dd : Addr) (a : Addr), H dd = none → (y = if z = "" then ("instant" : Str) else z) → ¬ Good p → ∀ t, (upd H dd (.xd [(("name" : Str), V.str y)])) t = none → Q (.ref t) (upd (upd H dd (.xd [(("name" : Str), V.str y)])) t (.tup [.str "refused", .str y])) := by
      intro y dd a hd ey bad t ht
      have s1 : Same H (upd H dd (.xd [(("name" : Str), V.str y)])) := same_upd (Same.refl H) hd
      exact q2 bad t _ (same_upd s1 (s1.free ht)) (by rw [← ey]; exact upd_same)
    have two : (2 : Nat) ≤ sizeLine := by decide
    refine ⟨_, rfl, rfl, _, rfl, ite2 (fun c => ?_) (fun c => ?_)⟩
    · have ez : z = "" := V.str.inj (of_decide_eq_true c)
      refine ⟨_, rfl, x, p, "instant", rfl, hx, by decide, fun g => ?_, fun bad dd hd => ?_⟩
      · exact ⟨_, rfl, q1 g _ (Same.refl H)⟩
      · refine ⟨true, T.exB, fun _ a _ => ?_, fun y => Bool.noConfusion y⟩
        refine ⟨_, rfl, C, dd, true, _, rfl, rfl, rfl, T.k1, upd_same, _, rfl, ?_⟩
        refine iteT ⟨_, rfl, T', dd, false, _, rfl, rfl, rfl, T.k2, upd_same, _, rfl, ?_⟩
        refine iteT ⟨_, rfl, rfl, rfl, dd, _, rfl, upd_same, two, fun t ht => ?_⟩
        exact fin _ dd a hd (by rw [if_pos ez]) bad t ht
    · have ez : ¬ z = "" := fun y => c (decide_eq_true (congrArg V.str y))
      refine ⟨_, rfl, _, rfl, x, p, z, rfl, hx, hz, fun g => ?_, fun bad dd hd => ?_⟩
      · exact ⟨_, rfl, q1 g _ (Same.refl H)⟩
      · refine ⟨true, T.exB, fun _ a _ => ?_, fun y => Bool.noConfusion y⟩
        refine ⟨_, rfl, C, dd, true, _, rfl, rfl, rfl, T.k1, upd_same, _, rfl, ?_⟩
        refine iteT ⟨_, rfl, T', dd, false, _, rfl, rfl, rfl, T.k2, upd_same, _, rfl, ?_⟩
        refine iteT ⟨_, rfl, rfl, rfl, dd, _, rfl, upd_same, two, fun t ht => ?_⟩
        exact fin _ dd a hd (by rw [if_neg ez]) bad t ht
end
end LB

set_option maxRecDepth 100000
set_option maxHeartbeats 8000000
namespace LB
open PySem PySem.Spec PyProof.Rows L2
/-! ### what stays -/
theorem Box.same {H H' : Hp} {b : Addr} (B : Box H b) (e : Same H H') : Box H' b := by
  obtain ⟨l, ds, k, h, hl, r⟩ := B
  exact ⟨l, ds, k, e _ _ h, e _ _ hl, r⟩
theorem But.free {H H' : Hp} {b p : Addr} (x : But b H H') (B : Box H' b) (n : H' p = none) : H p = none := by
  obtain ⟨l, ds, k, h, _⟩ := B
  cases q : H p with
  | none => rfl
  | some o =>
    have ne : p ≠ b := fun z => by rw [z, h] at n; cases n
    rw [x p o ne q] at n
    cases n
theorem SqT.same {K : PySem.W.Frag} {H H' : Hp} {a : Addr} {xs : List V} (e : Same H H') (h : SqT K H a xs) : SqT K H' a xs := by
  rcases h with (h | ⟨o, h⟩) | h
  · exact .inl (.inl (e _ _ h))
  · exact .inl (.inr ⟨o, e _ _ h⟩)
  · exact .inr h
theorem At.same {K : PySem.W.Frag} {H H' : Hp} {v : V} {o : Option Ins} (e : Same H H') (h : At K H v o) : At K H' v o := by
  cases o with
  | none => exact h
  | some p =>
    obtain ⟨a, z, q⟩ := h
    exact ⟨a, z, SqT.same e q⟩
theorem same_new {H : Hp} {p : Addr} {o : HO} (n : H p = none) : Same H (upd H p o) := same_upd (Same.refl H) n
/-! ### their data -/
def dIns : Option Ins → PyData
  | none => .none
  | some p => .tuple [.int p.1, .int p.2]
theorem At.dp {K : PySem.W.Frag} {H : Hp} {v : V} {o : Option Ins} (h : At K H v o) : Dp K H v (dIns o) := by
  cases o with
  | none => cases h; exact .non
  | some p =>
    obtain ⟨a, rfl, q⟩ := h
    exact .tup q (.cons (.int _) (.cons (.int _) .nil))
def SmI (o : Option Ins) : Prop := ∀ p, o = some p → Sm p.1 ∧ Sm p.2
theorem short_ins {o : Option Ins} (h : SmI o) : Short (dIns o) := by
  cases o with
  | none => exact .of (by decide) (by decide) (by decide) (by decide) (by decide)
  | some p =>
    obtain ⟨h1, h2⟩ := h p rfl
    have a1 := log_small h1
    have a2 := log_small h2
    have b1 := leaf_small h1
    have b2 := leaf_small h2
    refine .of ?_ ?_ ?_ ?_ ?_
    · show (PyData.showable (.int p.1) && (PyData.showable (.int p.2) && true)) = true
      rw [show PyData.showable (.int p.1) = true from decide_eq_true a1, show PyData.showable (.int p.2) = true from decide_eq_true a2] <;> rfl
    · rfl
    · show (max 0 (max 0 0)) + 1 ≤ 50
      decide
    · show (PyData.leavesShort 13 (.int p.1) && (PyData.leavesShort 13 (.int p.2) && true)) = true
      rw [show PyData.leavesShort 13 (.int p.1) = true from decide_eq_true b1, show PyData.leavesShort 13 (.int p.2) = true from decide_eq_true b2] <;> rfl
    · show 0 + 1 + (0 + 1 + 0) ≤ 2 ^ 20
      decide
section
variable {P : Program} {w : World} {K : PySem.W.Frag} {mg : Str → Option Value} {base : Heap} {B C T' fI cc cda : Addr}
def spLater' (K : PySem.W.Frag) : Sp := fun vs H Q _ => ∃ (x : V) (p : Ins) (k : Int), vs = [x, .int k] ∧ At K H x (some p) ∧ ∀ v H', Same H H' → At K H' v (some (laterP p k)) → Q v H'
theorem later_imp (vs : List V) (H : Hp) (Q : VK) (E : XK) (h : spLater' K vs H Q E) : spLater K vs H Q E := by
  obtain ⟨x, p, k, rfl, hx, q⟩ := h
  refine ⟨x, p, k, rfl, hx, fun e => ?_, fun e a n => ?_⟩
  · exact q x H (Same.refl H) (by unfold laterP; rw [if_pos e]; exact hx)
  · refine q _ _ (same_new n) ?_
    unfold laterP
    rw [if_neg e]
    exact At.made
def spNext' (K : PySem.W.Frag) : Sp := fun vs H Q _ => ∃ (x : V) (p : Ins), vs = [x] ∧ At K H x (some p) ∧ ∀ v H', Same H H' → At K H' v (some (p.1, p.2 + 1)) → Q v H'
theorem next_imp (vs : List V) (H : Hp) (Q : VK) (E : XK) (h : spNext' K vs H Q E) : spNext K vs H Q E := by
  obtain ⟨x, p, rfl, hx, q⟩ := h
  exact ⟨x, p, rfl, hx, fun a n => q _ _ (same_new n) At.made⟩
def spInstant (K : PySem.W.Frag) : Sp := fun vs H Q _ => ∃ (b : Addr), vs = [.ref b] ∧ Box H b ∧ ∀ (v : V) (p : Ins) (H' : Hp), (0 ≤ p.1 ∧ p.1 ≤ 999999) → (0 ≤ p.2 ∧ p.2 ≤ 3) → Box H' b → But b H H' → At K H' v (some p) → Q v H'
theorem scInstant : FnScope ["box", "kind"] ["box"] (defScope sInstant) := ⟨rfl, rfl, rfl, by decide +kernel, rfl, by decide +kernel, by decide +kernel⟩
theorem ok_instant {f fD : Addr} {fd fdD : FuncData} (F : Fun K "_law_instant" "_law_instant" sInstant f fd) (M : Names mg) (FD : Fun K "_law_draw" "_law_draw" sDraw fD fdD) (mD : mg "_law_draw" = some (.ref fD)) (bD : Binds K fdD ["box", "many"] []) :
    FnOk P w K mg base CX0 2 f fd ["box"] (spInstant K) := by
  have GD : FnOk P w K mg base CX0 1 fD fdD ["box", "many"] (spDraw K) := ok_draw FD M
  have kD := FD.kp
  refine F.ok scInstant (fun vs H Q E h => ?_) (fun cdv A outer s H vs Q E hr h => ?_)
  · obtain ⟨b, rfl, _⟩ := h
    rfl
  · obtain ⟨b, rfl, B, q⟩ := h
    have nd := scInstant.nd
    have two : (2 : Nat) ≤ sizeLine := by decide
    refine ⟨_, (pss_cons (ps_set (i := 1) nd rfl (Or.inl rfl) (pe_call GD (hr.mono (by decide)) rfl mD kD bD .nil pass0 (pa_cons (pv 0) (pa_cons pe_int pa_nil))))
        (pss_cons (ps_if (pt_cmpR op_eq (pv 1) pe_int (nomark _)) (pss_one (ps_ret (pe_tup (pa_cons (pe_call GD (hr.mono (by decide)) rfl mD kD bD .nil pass0 (pa_cons (pv 0) (pa_cons pe_int pa_nil))) (pa_cons (pe_call GD (hr.mono (by decide)) rfl mD kD bD .nil pass0 (pa_cons (pv 0) (pa_cons pe_int pa_nil))) pa_nil))))) pss_nil)
        (pss_cons (ps_if (pt_cmpR op_eq (pv 1) pe_int (nomark _)) (pss_one (ps_ret (pe_tup (pa_cons (pe_call GD (hr.mono (by decide)) rfl mD kD bD .nil pass0 (pa_cons (pv 0) (pa_cons pe_int pa_nil))) (pa_cons pe_int pa_nil))))) pss_nil)
        (pss_one (ps_ret (pe_tup (pa_cons (pe_op op_add (pe_op op_mul (pe_call GD (hr.mono (by decide)) rfl mD kD bD .nil pass0 (pa_cons (pv 0) (pa_cons pe_int pa_nil))) pe_int) (pe_call GD (hr.mono (by decide)) rfl mD kD bD .nil pass0 (pa_cons (pv 0) (pa_cons pe_int pa_nil)))) (pa_cons (pe_call GD (hr.mono (by decide)) rfl mD kD bD .nil pass0 (pa_cons (pv 0) (pa_cons pe_int pa_nil))) pa_nil)))))))), ?_⟩
    refine ⟨_, rfl, b, 4, rfl, B, by decide, fun r H1 _ _ B1 U1 => ?_⟩
    refine ⟨_, rfl, rfl, _, rfl, ite2 (fun _ => ?_) (fun _ => ?_)⟩
    · refine ⟨_, rfl, b, 3, rfl, B1, by decide, fun t H2 t0 t1 B2 U2 => ?_⟩
      refine ⟨_, rfl, b, 3, rfl, B2, by decide, fun u H3 u0 u1 B3 U3 => ⟨two, fun p hp => ?_⟩⟩
      exact q _ (t, u) _ ⟨t0, (show t ≤ 999999 by omega)⟩ ⟨u0, (show u ≤ 3 by omega)⟩ (B3.new hp) (((U1.trans U2).trans U3).new hp) At.made
    · refine ⟨_, rfl, rfl, _, rfl, ite2 (fun _ => ?_) (fun _ => ?_)⟩
      · refine ⟨_, rfl, b, 20, rfl, B1, by decide, fun t H2 t0 t1 B2 U2 => ⟨two, fun p hp => ?_⟩⟩
        exact q _ (t, 0) _ ⟨t0, (show t ≤ 999999 by omega)⟩ ⟨(show (0 : Int) ≤ 0 by decide), (show (0 : Int) ≤ 3 by decide)⟩ (B2.new hp) ((U1.trans U2).new hp) At.made
      · refine ⟨_, rfl, b, 1000, rfl, B1, by decide, fun t H2 t0 t1 B2 U2 => ?_⟩
        refine ⟨_, _, rfl, rfl, .inr ⟨by decide, by decide⟩, ?_⟩
        refine ⟨_, rfl, b, 1000, rfl, B2, by decide, fun u H3 u0 u1 B3 U3 => ?_⟩
        refine ⟨_, _, rfl, rfl, ?_⟩
        refine ⟨_, rfl, b, 4, rfl, B3, by decide, fun r' H4 r0 r1 B4 U4 => ⟨two, fun p hp => ?_⟩⟩
        exact q _ (t * 1000 + u, r') _ ⟨(show 0 ≤ t * 1000 + u by omega), (show t * 1000 + u ≤ 999999 by omega)⟩ ⟨r0, (show r' ≤ 3 by omega)⟩ (B4.new hp) ((((U1.trans U2).trans U3).trans U4).new hp) At.made
end
end LB

set_option maxRecDepth 100000
set_option maxHeartbeats 8000000
namespace LB
open PySem PySem.Spec PyProof.Rows L2
theorem sml {p : Ins} (h1 : 0 ≤ p.1 ∧ p.1 ≤ 999999) (h2 : 0 ≤ p.2 ∧ p.2 ≤ 3) {k : Int} (hk : 0 ≤ k) (hk2 : k ≤ 1001) : SmI (some (laterP p k)) ∧ SmI (some (p.1, p.2 + 1)) ∧ SmI (some p) := by
  refine ⟨?_, ?_, ?_⟩
  · intro q e
    have e := Option.some.inj e
    subst e
    unfold laterP
    split
    · exact ⟨Sm.of (by omega) (by omega), Sm.of (by omega) (by omega)⟩
    · exact ⟨Sm.of (show -1000000000 ≤ p.1 + k by omega) (show p.1 + k ≤ 1000000000 by omega), Sm.of (show -1000000000 ≤ (0 : Int) by decide) (show (0 : Int) ≤ 1000000000 by decide)⟩
  · intro q e
    have e := Option.some.inj e
    subst e
    exact ⟨Sm.of (show -1000000000 ≤ p.1 by omega) (show p.1 ≤ 1000000000 by omega), Sm.of (show -1000000000 ≤ p.2 + 1 by omega) (show p.2 + 1 ≤ 1000000000 by omega)⟩
  · intro q e
    have e := Option.some.inj e
    subst e
    exact ⟨Sm.of (by omega) (by omega), Sm.of (by omega) (by omega)⟩
theorem sml_earlier {o q : Option Ins} (h1 : SmI o) (h2 : SmI q) : SmI (earlier o q) := by
  unfold earlier
  split
  · exact h1
  · exact h2
/-- the earlier one does not hang on the order -/
theorem earlier_comm (o q : Option Ins) : earlier o q = earlier q o := by
  unfold earlier
  cases o with
  | none =>
    cases q with
    | none => rfl
    | some q => rfl
  | some o =>
    cases q with
    | none => rfl
    | some q =>
      obtain ⟨a, b⟩ := o
      obtain ⟨c, d⟩ := q
      show (if decide (a < c ∨ (a = c ∧ b ≤ d)) = true then some (a, b) else some (c, d)) = (if decide (c < a ∨ (c = a ∧ d ≤ b)) = true then some (c, d) else some (a, b))
      by_cases h1 : a < c ∨ (a = c ∧ b ≤ d)
      · rw [if_pos (decide_eq_true h1)]
        by_cases h2 : c < a ∨ (c = a ∧ d ≤ b)
        · rw [if_pos (decide_eq_true h2)]
          have e1 : a = c := by omega
          have e2 : b = d := by omega
          rw [e1, e2]
        · rw [if_neg (by simpa using h2)]
      · rw [if_neg (by simpa using h1), if_pos (decide_eq_true (show c < a ∨ (c = a ∧ d ≤ b) by omega))]
/-- what not_after says, by the earlier one -/
theorem notAfter_by (p : Ins) (o : Option Ins) : notAfter (some p) o = (decide (o = none) || PyData.eqv (dIns (earlier (some p) o)) (dIns (some p))) := by
  cases o with
  | none => rfl
  | some q =>
    obtain ⟨a, b⟩ := p
    obtain ⟨c, d⟩ := q
    have ev : ∀ x y : Ins, PyData.eqv (dIns (some x)) (dIns (some y)) = (decide (x.1 = y.1) && decide (x.2 = y.2)) := fun x y => by
      show ((x.1 == y.1) && ((x.2 == y.2) && true)) = _
      rw [Bool.and_true]
      rfl
    unfold earlier
    show decide (a < c ∨ (a = c ∧ b ≤ d)) = (decide (some (c, d) = none) || PyData.eqv (dIns (if decide (a < c ∨ (a = c ∧ b ≤ d)) = true then some (a, b) else some (c, d))) (dIns (some (a, b))))
    have e0 : decide (some (c, d) = (none : Option Ins)) = false := rfl
    rw [e0, Bool.false_or]
    by_cases h1 : a < c ∨ (a = c ∧ b ≤ d)
    · rw [if_pos (decide_eq_true h1), ev, decide_eq_true h1]
      simp
    · rw [if_neg (by simpa using h1), ev, decide_eq_false h1]
      by_cases h2 : c = a
      · have h3 : ¬ d = b := by omega
        simp [h3]
      · simp [h2]
theorem lay_ins (o : Option Ins) : SeqAt.shaped (dIns o) = true := by
  cases o with
  | none => decide
  | some p => rfl
theorem At.sq {K : PySem.W.Frag} {H : Hp} {i : Addr} {p : Ins} (h : At K H (.ref i) (some p)) : SqT K H i [.int p.1, .int p.2] := by
  obtain ⟨a, e, q⟩ := h
  cases e
  exact q
theorem At.ref {K : PySem.W.Frag} {H : Hp} {v : V} {p : Ins} (h : At K H v (some p)) : ∃ i, v = .ref i := let ⟨i, e, _⟩ := h; ⟨i, e⟩
/-- the box, the first instant and the second stand -/
structure Sit (K : PySem.W.Frag) (b i : Addr) (p : Ins) (v : V) (o : Option Ins) (H : Hp) : Prop where
  B : Box H b
  one : At K H (.ref i) (some p)
  two : At K H v o
theorem Sit.same {K : PySem.W.Frag} {b i : Addr} {p : Ins} {v : V} {o : Option Ins} {H H' : Hp} (S : Sit K b i p v o H) (e : Same H H') : Sit K b i p v o H' := ⟨S.B.same e, S.one.same e, S.two.same e⟩
theorem Sit.new {K : PySem.W.Frag} {b i : Addr} {p : Ins} {v : V} {o : Option Ins} {H : Hp} (S : Sit K b i p v o H) {t : Addr} {u : HO} (n : H t = none) : Sit K b i p v o (upd H t u) := S.same (same_new n)
theorem Sit.but {K : PySem.W.Frag} {b i : Addr} {p : Ins} {v : V} {o : Option Ins} {H H' : Hp} (S : Sit K b i p v o H) (B : Box H' b) (U : But b H H') : Sit K b i p v o H' := ⟨B, S.one.but S.B U, S.two.but S.B U⟩
theorem Box.apart {H : Hp} {b l : Addr} (B : Box H b) (n : H l = none) : l ≠ b := fun z => by
  obtain ⟨_, _, _, h, _⟩ := B
  rw [z, h] at n
  cases n
def spLaw (K : PySem.W.Frag) : Sp := fun vs H Q _ => ∃ (a : Addr) (ns : List Int), vs = [.ref a] ∧ SqL K H a (ns.map V.int) ∧ ∀ H', Q (.bl true) H'
/-- the defs that law calls, as they stand -/
structure Defs (K : PySem.W.Frag) (mg : Str → Option Value) (base : Heap) (P : Program) (w : World) (C : Addr) : Prop where
  D : ∃ f fd, FnOk P w K mg base CX0 1 f fd ["box", "many"] (spDraw K) ∧ mg "_law_draw" = some (.ref f) ∧ PySem.W.keepIn K (.ref f) = true ∧ Binds K fd ["box", "many"] []
  G : ∃ f fd, FnOk P w K mg base CX0 2 f fd ["script", "first", "last"] (spDigits K) ∧ mg "_law_digits" = some (.ref f) ∧ PySem.W.keepIn K (.ref f) = true ∧ Binds K fd ["script", "first", "last"] []
  I : ∃ f fd, FnOk P w K mg base CX0 2 f fd ["box"] (spInstant K) ∧ mg "_law_instant" = some (.ref f) ∧ PySem.W.keepIn K (.ref f) = true ∧ Binds K fd ["box"] []
  A : ∃ f fd, FnG P w K mg base CX0 1 f fd ["one", "two"] (spAlike K) ∧ mg "_law_alike" = some (.ref f) ∧ PySem.W.keepIn K (.ref f) = true ∧ Binds K fd ["one", "two"] []
  L : ∃ f fd, FnOk P w K mg base CX0 1 f fd ["instant", "ticks"] (spLater' K) ∧ mg "later" = some (.ref f) ∧ PySem.W.keepIn K (.ref f) = true ∧ Binds K fd ["instant", "ticks"] []
  X : ∃ f fd, FnOk P w K mg base CX0 1 f fd ["instant"] (spNext' K) ∧ mg "next_instant" = some (.ref f) ∧ PySem.W.keepIn K (.ref f) = true ∧ Binds K fd ["instant"] []
  E : ∃ f fd, FnOk P w K mg base CX0 2 f fd ["one", "two"] (spEarlier K) ∧ mg "earliest" = some (.ref f) ∧ PySem.W.keepIn K (.ref f) = true ∧ Binds K fd ["one", "two"] []
  F : ∃ f fd, FnOk P w K mg base CX0 1 f fd ["one", "two"] (spEarlier K) ∧ mg "_law_earlier" = some (.ref f) ∧ PySem.W.keepIn K (.ref f) = true ∧ Binds K fd ["one", "two"] []
  N : ∃ f fd, FnOk P w K mg base CX0 1 f fd ["instant", "cancel"] (spNotAfter K) ∧ mg "not_after" = some (.ref f) ∧ PySem.W.keepIn K (.ref f) = true ∧ Binds K fd ["instant", "cancel"] []
  R : ∃ f fd, FnOk P w K mg base CX0 3 f fd ["instant", "what"] (spRefused K) ∧ mg "_law_refused" = some (.ref f) ∧ PySem.W.keepIn K (.ref f) = true ∧ Binds K fd ["instant", "what"] []
  tm : ∃ t, mg "TIME_MOST" = some (.int 1000000 t)
  rm : ∃ t, mg "ROUND_MOST" = some (.int 1000 t)
  names : Names mg
section
variable {P : Program} {w : World} {K : PySem.W.Frag} {mg : Str → Option Value} {base : Heap} {C : Addr}
theorem scLaw : FnScope ["script", "box", "turn", "one", "two", "ticks", "due", "far", "good", "what"] ["script"] (defScope sLaw) := ⟨rfl, rfl, rfl, by decide +kernel, rfl, by decide +kernel, by decide +kernel⟩
theorem ok_law {f : Addr} {fd : FuncData} (F : Fun K "law" "law" sLaw f fd) (T : Defs K mg base P w C) : FnG P w K mg base CX0 5 f fd ["script"] (spLaw K) := by
  obtain ⟨_, _, GD, mD, kD, bD⟩ := T.D
  obtain ⟨_, _, GG, mG, kG, bG⟩ := T.G
  obtain ⟨_, _, GI, mI, kI, bI⟩ := T.I
  obtain ⟨_, _, GA, mA, kA, bA⟩ := T.A
  obtain ⟨_, _, GL, mL, kL, bL⟩ := T.L
  obtain ⟨_, _, GX, mX, kX, bX⟩ := T.X
  obtain ⟨_, _, GE, mE, kE, bE⟩ := T.E
  obtain ⟨_, _, GF, mF, kF, bF⟩ := T.F
  obtain ⟨_, _, GN, mN, kN, bN⟩ := T.N
  obtain ⟨_, _, GR, mR, kR, bR⟩ := T.R
  obtain ⟨tt, tm⟩ := T.tm
  obtain ⟨rt, rm⟩ := T.rm
  have M := T.names
  refine FnG.of_fun F scLaw (fun vs H Q E h => ?_) (fun cdv A outer s H vs Q E gf hr h => ?_)
  · obtain ⟨a, ns, rfl, _⟩ := h
    rfl
  · obtain ⟨a, ns, rfl, hS, q⟩ := h
    have nd := scLaw.nd
    have two : (2 : Nat) ≤ sizeLine := by decide
    have four : (4 : Nat) ≤ sizeLine := by decide
    have three : (3 : Nat) ≤ sizeLine := by decide
    have six : (6 : Nat) ≤ sizeLine := by decide
    refine ⟨_, (pss_cons (ps_set (i := 1) nd rfl (Or.inl rfl) (pe_lst (pa_cons (pe_call GG (hr.mono (by decide)) rfl mG kG bG .nil pass0 (pa_cons (pv 0) (pa_cons pe_int (pa_cons pe_int pa_nil)))) (pa_cons pe_int pa_nil))))
        (pss_cons (ps_if (PW.pt (pw_or (pt_cmpR op_ne (pe_glob (v := .int 1000000) rfl tm ⟨_, rfl⟩) pe_int (nomark _)) (pw_or1 (pt_cmpR op_ne (pe_glob (v := .int 1000) rfl rm ⟨_, rfl⟩) pe_int (nomark _))))) (pss_one (ps_ret pe_bl)) pss_nil)
        (pss_cons (ps_for PassesOwn.never rfl (pi_range1 (by rfl) M.range (pa_cons pe_int pa_nil)) (pg_name (i := 2) nd rfl (Or.inl rfl)) (pss_cons (ps_set (i := 3) nd rfl (Or.inl rfl) (pe_call GI (hr.mono (by decide)) rfl mI kI bI .nil pass0 (pa_cons (pv 1) pa_nil)))
        (pss_cons (ps_set (i := 4) nd rfl (Or.inl rfl) (pe_ix ix_list (pe_lst (pa_cons (pe_call GI (hr.mono (by decide)) rfl mI kI bI .nil pass0 (pa_cons (pv 1) pa_nil)) (pa_cons (pv 3) (pa_cons (pe_tup (pa_cons (pe_ix ix_tup (pv 3) pe_int (fun _ _ => rfl)) (pa_cons (pe_op op_add (pe_ix ix_tup (pv 3) pe_int (fun _ _ => rfl)) pe_int) pa_nil))) (pa_cons pe_non pa_nil))))) (pe_call GD (hr.mono (by decide)) rfl mD kD bD .nil pass0 (pa_cons (pv 1) (pa_cons pe_int pa_nil))) (fun _ _ => rfl)))
        (pss_cons (ps_set (i := 5) nd rfl (Or.inl rfl) (pe_ix ix_list (pe_lst (pa_cons pe_int (pa_cons pe_int (pa_cons (pe_op op_add (pe_call GD (hr.mono (by decide)) rfl mD kD bD .nil pass0 (pa_cons (pv 1) (pa_cons pe_int pa_nil))) (pe_call GD (hr.mono (by decide)) rfl mD kD bD .nil pass0 (pa_cons (pv 1) (pa_cons pe_int pa_nil)))) pa_nil)))) (pe_call GD (hr.mono (by decide)) rfl mD kD bD .nil pass0 (pa_cons (pv 1) (pa_cons pe_int pa_nil))) (fun _ _ => rfl)))
        (pss_cons (ps_set (i := 6) nd rfl (Or.inl rfl) (pv 3))
        (C8.pss_cut (ps_if (pt_cmpR op_gt (pv 5) pe_int (nomark _)) (pss_one (ps_set (i := 6) nd rfl (Or.inl rfl) (pe_tup (pa_cons (pe_op op_add (pe_ix ix_tup (pv 3) pe_int (fun _ _ => rfl)) (pv 5)) (pa_cons pe_int pa_nil))))) pss_nil)
        (pss_cons (ps_if (PW.pt (pw_or (pt_not (pt_val (pe_callF gf GA (hr.mono (by decide)) rfl mA kA bA .nil pass0 (pa_cons (pe_call GL (hr.mono (by decide)) rfl mL kL bL .nil pass0 (pa_cons (pv 3) (pa_cons (pv 5) pa_nil))) (pa_cons (pv 6) pa_nil))))) (pw_or1 (pt_not (pt_val (pe_callF gf GA (hr.mono (by decide)) rfl mA kA bA .nil pass0 (pa_cons (pe_call GX (hr.mono (by decide)) rfl mX kX bX .nil pass0 (pa_cons (pv 3) pa_nil)) (pa_cons (pe_tup (pa_cons (pe_ix ix_tup (pv 3) pe_int (fun _ _ => rfl)) (pa_cons (pe_op op_add (pe_ix ix_tup (pv 3) pe_int (fun _ _ => rfl)) pe_int) pa_nil))) pa_nil)))))))) (pss_one (ps_ret pe_bl)) pss_nil)
        (pss_cons (ps_if (PW.pt (pw_or (pt_not (pt_val (pe_callF gf GA (hr.mono (by decide)) rfl mA kA bA .nil pass0 (pa_cons (pe_call GE (hr.mono (by decide)) rfl mE kE bE .nil pass0 (pa_cons (pv 3) (pa_cons (pv 4) pa_nil))) (pa_cons (pe_call GF (hr.mono (by decide)) rfl mF kF bF .nil pass0 (pa_cons (pv 3) (pa_cons (pv 4) pa_nil))) pa_nil))))) (pw_or1 (pt_not (pt_val (pe_callF gf GA (hr.mono (by decide)) rfl mA kA bA .nil pass0 (pa_cons (pe_call GE (hr.mono (by decide)) rfl mE kE bE .nil pass0 (pa_cons (pv 4) (pa_cons (pv 3) pa_nil))) (pa_cons (pe_call GF (hr.mono (by decide)) rfl mF kF bF .nil pass0 (pa_cons (pv 3) (pa_cons (pv 4) pa_nil))) pa_nil)))))))) (pss_one (ps_ret pe_bl)) pss_nil)
        (C8.pss_cut (ps_if (pt_not (pt_val (pe_callF gf GA (hr.mono (by decide)) rfl mA kA bA .nil pass0 (pa_cons (pe_call GN (hr.mono (by decide)) rfl mN kN bN .nil pass0 (pa_cons (pv 3) (pa_cons (pv 4) pa_nil))) (pa_cons (pe_or (pe_cmpR op_isN (pv 4) pe_non (nomark _)) (pe_one (pe_cmpR (op_eqD hr.units) (pe_call GF (hr.mono (by decide)) rfl mF kF bF .nil pass0 (pa_cons (pv 3) (pa_cons (pv 4) pa_nil))) (pv 3) (nomark _)))) pa_nil))))) (pss_one (ps_ret pe_bl)) pss_nil)
        (pss_cons (ps_set (i := 7) nd rfl (Or.inl rfl) (pe_ix ix_list (pe_lst (pa_cons (pe_tup (pa_cons pe_int (pa_cons pe_int pa_nil))) (pa_cons (pe_tup (pa_cons pe_int (pa_cons pe_int pa_nil))) (pa_cons (pe_tup (pa_cons pe_int (pa_cons pe_int pa_nil))) (pa_cons (pe_tup (pa_cons (pe_un un_neg pe_int) (pa_cons pe_int pa_nil))) (pa_cons (pe_tup (pa_cons pe_int (pa_cons (pe_un un_neg pe_int) pa_nil))) (pa_cons (pv 3) pa_nil))))))) (pe_call GD (hr.mono (by decide)) rfl mD kD bD .nil pass0 (pa_cons (pv 1) (pa_cons pe_int pa_nil))) (fun _ _ => rfl)))
        (C8.pss_cut (ps_set (i := 8) nd rfl (Or.inl rfl) (pe_and (pe_chain op_le op_le pe_int (pe_ix ix_tup (pv 7) pe_int (fun _ _ => rfl)) pe_int) (pe_one (pe_chain op_le op_le pe_int (pe_ix ix_tup (pv 7) pe_int (fun _ _ => rfl)) pe_int))))
        (pss_one (ps_for PassesOwn.never rfl (pi_tup (pe_tup (pa_cons pe_str (pa_cons pe_str pa_nil)))) (pg_name (i := 9) nd rfl (Or.inl rfl)) (pss_cons (ps_set (i := 6) nd rfl (Or.inl rfl) (pe_tup (pa_cons pe_str (pa_cons (pv 9) pa_nil))))
        (C8.pss_cut (ps_if (pt_val (pv 8)) (pss_one (ps_set (i := 6) nd rfl (Or.inl rfl) pe_non)) pss_nil)
        (pss_one (ps_if (pt_not (pt_val (pe_callF gf GA (hr.mono (by decide)) rfl mA kA bA .nil pass0 (pa_cons (pe_call GR (hr.mono (by decide)) rfl mR kR bR .nil pass0 (pa_cons (pv 7) (pa_cons (pe_ix ix_list (pe_lst (pa_cons pe_str (pa_cons (pv 9) pa_nil))) (pe_callTy call_int1 (by rfl) M.int (by decide +kernel) (pa_cons (pe_cmpR op_eq (pv 9) pe_str (nomark _)) pa_nil)) (fun _ _ => rfl)) pa_nil))) (pa_cons (pv 6) pa_nil))))) (pss_one (ps_ret pe_bl)) pss_nil)))))))))))))))))
        (pss_one (ps_ret (pe_cmpR op_isN (pe_call GE (hr.mono (by decide)) rfl mE kE bE .nil pass0 (pa_cons pe_non (pa_cons pe_non pa_nil))) pe_non (nomark _))))))), ?_⟩
    refine ⟨_, rfl, a, ns, 0, 63, rfl, hS, by decide, by decide, by decide, fun ds H1 l s1 nl hl hd hlen => ⟨two, fun b nb => ?_⟩⟩
    have B0 : Box (upd H1 b (.lst [.ref l, .int 0])) b := ⟨l, ds, 0, upd_same, by rw [upd_ne (ne_of_none hl nb)]; exact hl, (ne_of_none hl nb).symm, by decide, hlen⟩
    refine ⟨rfl, _, rfl, iteNS rfl ⟨rfl, _, rfl, iteNS rfl ?_⟩⟩
    refine ⟨8, rfl, by decide, by decide, for_range (n := 8) (fun m σ H' => ∃ (v2 v3 v4 v5 v6 v7 v8 v9 : Option V), σ = [some (.ref a), some (.ref b), v2, v3, v4, v5, v6, v7, v8, v9] ∧ Box H' b)
      ⟨none, none, none, none, none, none, none, none, rfl, B0⟩ ?_ ?_⟩
    · rintro m σ H0 hm ⟨v2, v3, v4, v5, v6, v7, v8, v9, rfl, B0⟩
      -- one
      refine ⟨_, rfl, b, rfl, B0, fun x1 p H1 pt pr B1 U1 a1 => ?_⟩
      obtain ⟨i1, rfl⟩ := a1.ref
      -- two
      refine ⟨_, rfl, b, rfl, B1, fun x2 p2 H2 pt2 pr2 B2 U2 a2 => ?_⟩
      have a1 := a1.but B1 U2
      refine ⟨_, rfl, _, rfl, i1, _, _, _, rfl, rfl, a1.sq, rfl, _, rfl, i1, _, _, _, rfl, rfl, a1.sq, rfl, _, _, rfl, rfl, two, fun t3 n3 => ?_⟩
      refine ⟨four, fun l4 n4 => ?_⟩
      refine ⟨_, rfl, b, 4, rfl, (B2.new n3).new n4, by decide, fun r H5 r0 r4 B5 U5 => ?_⟩
      have B4 := (B2.new (o := .tup [V.int p.1, V.int (p.2 + 1)]) n3).new (o := .lst [x2, .ref i1, .ref t3, .non]) n4
      have a1 := (a1.new (u := .tup [V.int p.1, V.int (p.2 + 1)]) n3).new (u := .lst [x2, .ref i1, .ref t3, .non]) n4 |>.but B4 U5
      have a2 := (a2.new (u := .tup [V.int p.1, V.int (p.2 + 1)]) n3).new (u := .lst [x2, .ref i1, .ref t3, .non]) n4 |>.but B4 U5
      have a3 : At K H5 (.ref t3) (some (p.1, p.2 + 1)) := (At.made.new (u := .lst [x2, .ref i1, .ref t3, .non]) n4).but B4 U5
      have hl4 : H5 l4 = some (.lst [x2, .ref i1, .ref t3, .non]) := U5 l4 _ ((B2.new n3).apart n4) upd_same
      obtain ⟨sm1, sm2, sm3⟩ := sml pt pr (k := 0) (by decide) (by decide)
      have pick : ∃ v o, atI [x2, V.ref i1, V.ref t3, V.non] r = some v ∧ At K H5 v o ∧ SmI o := by
        have c : r = 0 ∨ r = 1 ∨ r = 2 ∨ r = 3 := by omega
        rcases c with rfl | rfl | rfl | rfl
        · exact ⟨_, _, rfl, a2, (sml pt2 pr2 (k := 0) (by decide) (by decide)).2.2⟩
        · exact ⟨_, _, rfl, a1, sm3⟩
        · exact ⟨_, _, rfl, a3, sm2⟩
        · exact ⟨_, none, rfl, rfl, fun _ e => (by cases e)⟩
      obtain ⟨w2, o2, hw, b2, so2⟩ := pick
      refine ⟨l4, _, _, w2, rfl, rfl, SqL.of hl4, hw, ?_⟩
      have S : Sit K b i1 p w2 o2 H5 := ⟨B5, a1, b2⟩
      clear hl4 hw a3 a2 a1 b2 B4 U5 n4 n3 U2 B2 B1 U1 sm2
      -- ticks
      refine ⟨_, rfl, b, 1000, rfl, S.B, by decide, fun k1 H6 k10 k11 B6 U6 => ?_⟩
      refine ⟨_, rfl, b, 2, rfl, B6, by decide, fun k2 H7 k20 k21 B7 U7 => ?_⟩
      refine ⟨_, _, rfl, rfl, three, fun l8 n8 => ?_⟩
      have S := ((S.but B6 U6).but B7 U7).new (u := .lst [V.int 0, V.int 1, V.int (k1 + k2)]) n8
      refine ⟨_, rfl, b, 3, rfl, S.B, by decide, fun r2 H9 r20 r21 B9 U9 => ?_⟩
      have hl8 : H9 l8 = some (.lst [V.int 0, V.int 1, V.int (k1 + k2)]) := U9 l8 _ (B7.apart n8) upd_same
      have pick : ∃ k : Int, atI [V.int 0, V.int 1, V.int (k1 + k2)] r2 = some (V.int k) ∧ 0 ≤ k ∧ k ≤ 1001 := by
        have c : r2 = 0 ∨ r2 = 1 ∨ r2 = 2 := by omega
        rcases c with rfl | rfl | rfl
        · exact ⟨_, rfl, by decide, by decide⟩
        · exact ⟨_, rfl, by decide, by decide⟩
        · exact ⟨_, rfl, by omega, by omega⟩
      obtain ⟨k, hk, k0, k1'⟩ := pick
      refine ⟨l8, _, _, _, rfl, rfl, SqL.of hl8, hk, ?_⟩
      have S := S.but B9 U9
      clear hl8 hk U9 B9 n8 B7 U7 B6 U6
      obtain ⟨sml1, sm2, _⟩ := sml pt pr k0 k1'
      -- due
      refine ⟨_, rfl, ?_⟩
      refine ⟨fun σ H => ∃ w6, σ = [some (.ref a), some (.ref b), some (.int (0 + m)), some (.ref i1), some w2, some (.int k), some w6, v7, v8, v9] ∧ Sit K b i1 p w2 o2 H ∧ At K H w6 (some (laterP p k)), ?_, ?_⟩
      · refine ⟨_, rfl, _, _, rfl, rfl, _, rfl, ite2 (fun c => ?_) (fun c => ?_)⟩
        · have c := of_decide_eq_true c
          refine ⟨_, rfl, i1, _, _, _, rfl, rfl, S.one.sq, rfl, _, rfl, _, _, rfl, rfl, two, fun t nt => ?_⟩
          refine ⟨_, rfl, S.new nt, ?_⟩
          unfold laterP
          rw [if_neg (by omega)]
          exact At.made
        · have c : ¬ 0 < k := fun y => c (decide_eq_true y)
          refine ⟨_, rfl, S, ?_⟩
          unfold laterP
          rw [if_pos (by omega)]
          exact S.one
      rintro σ H ⟨w6, rfl, S, a6⟩
      -- later and next_instant
      refine ⟨_, rfl, _, rfl, .ref i1, p, k, rfl, S.one, fun x H1 s1 ax => ?_⟩
      refine ⟨_, rfl, x, w6, dIns (some (laterP p k)), rfl, ax.dp, (a6.same s1).dp, short_ins sml1, _, rfl, iteF ?_⟩
      have S := S.same s1
      refine ⟨_, rfl, .ref i1, p, rfl, S.one, fun x H2 s2 ax => ?_⟩
      have S := S.same s2
      refine ⟨_, rfl, i1, _, _, _, rfl, rfl, S.one.sq, rfl, _, rfl, i1, _, _, _, rfl, rfl, S.one.sq, rfl, _, _, rfl, rfl, two, fun t nt => ?_⟩
      refine ⟨x, .ref t, dIns (some (p.1, p.2 + 1)), rfl, (ax.new nt).dp, At.made.dp, short_ins sm2, _, rfl, iteF ?_⟩
      have S := S.new (u := .tup [V.int p.1, V.int (p.2 + 1)]) nt
      -- earliest
      have se : SmI (earlier (some p) o2) := sml_earlier sm3 so2
      refine ⟨_, rfl, _, rfl, .ref i1, w2, some p, o2, rfl, S.one, S.two, fun x hx _ => ?_⟩
      refine ⟨_, rfl, _, rfl, .ref i1, w2, some p, o2, rfl, S.one, S.two, fun y hy _ => ?_⟩
      refine ⟨x, y, dIns (earlier (some p) o2), rfl, hx.dp, hy.dp, short_ins se, _, rfl, iteF ?_⟩
      refine ⟨_, rfl, _, rfl, w2, .ref i1, o2, some p, rfl, S.two, S.one, fun x hx _ => ?_⟩
      refine ⟨_, rfl, _, rfl, .ref i1, w2, some p, o2, rfl, S.one, S.two, fun y hy _ => ?_⟩
      rw [earlier_comm] at hx
      refine ⟨x, y, dIns (earlier (some p) o2), rfl, hx.dp, hy.dp, short_ins se, _, rfl, iteF ?_⟩
      -- not_after
      refine ⟨fun σ H => σ = [some (.ref a), some (.ref b), some (.int (0 + m)), some (.ref i1), some w2, some (.int k), some w6, v7, v8, v9] ∧ Sit K b i1 p w2 o2 H, ?_, ?_⟩
      · refine ⟨_, rfl, _, rfl, .ref i1, w2, some p, o2, rfl, S.one, S.two, ?_⟩
        have sb : ∀ c : Bool, Short (.bool c) := fun c => .of rfl rfl (by show 0 ≤ 50; decide) (by cases c <;> decide) (by show 0 ≤ 2 ^ 20; decide)
        have fin := notAfter_by p o2
        refine ⟨_, rfl, rfl, decide (w2 = .non), rfl, ?_⟩
        cases o2 with
        | none =>
          have e : w2 = .non := S.two
          subst e
          refine iteT ⟨_, _, .bool true, rfl, .bl _, .bl _, sb _, _, rfl, iteF ⟨rfl, S⟩⟩
        | some o =>
          obtain ⟨i2, rfl⟩ := S.two.ref
          refine iteF ⟨_, rfl, _, rfl, .ref i1, .ref i2, some p, some o, rfl, S.one, S.two, fun y hy _ => ?_⟩
          refine ⟨_, rfl, _, _, hy.dp, S.one.dp, lay_ins _, lay_ins _, ?_⟩
          have e0 : decide (some o = (none : Option Ins)) = false := rfl
          rw [e0, Bool.false_or] at fin
          rw [fin]
          exact ⟨_, _, .bool _, rfl, .bl _, .bl _, sb _, _, rfl, iteF ⟨rfl, S⟩⟩
      rintro σ H ⟨rfl, S⟩
      -- far
      refine ⟨two, fun t1 n1 => ⟨two, fun t2 n2 => ⟨two, fun t3 n3 => ?_⟩⟩⟩
      refine ⟨_, rfl, two, fun t4 n4 => ⟨_, rfl, two, fun t5 n5 => ⟨_, rfl, six, fun l6 n6 => ?_⟩⟩⟩
      have A1 : At K _ (.ref t1) (some ((1000000 : Int), (1000 : Int))) := (((((At.made (K := K) (H := H) (a := t1)).new n2).new n3).new n4).new n5).new (u := .lst [V.ref t1, .ref t2, .ref t3, .ref t4, .ref t5, .ref i1]) n6
      have A2 : At K _ (.ref t2) (some ((1000001 : Int), (0 : Int))) := ((((At.made (K := K) (a := t2)).new n3).new n4).new n5).new (u := .lst [V.ref t1, .ref t2, .ref t3, .ref t4, .ref t5, .ref i1]) n6
      have A3 : At K _ (.ref t3) (some ((0 : Int), (1001 : Int))) := (((At.made (K := K) (a := t3)).new n4).new n5).new (u := .lst [V.ref t1, .ref t2, .ref t3, .ref t4, .ref t5, .ref i1]) n6
      have A4 : At K _ (.ref t4) (some ((-1 : Int), (0 : Int))) := ((At.made (K := K) (a := t4)).new n5).new (u := .lst [V.ref t1, .ref t2, .ref t3, .ref t4, .ref t5, .ref i1]) n6
      have A5 : At K _ (.ref t5) (some ((0 : Int), (-1 : Int))) := (At.made (K := K) (a := t5)).new (u := .lst [V.ref t1, .ref t2, .ref t3, .ref t4, .ref t5, .ref i1]) n6
      have S := (((((S.new n1).new n2).new n3).new n4).new (u := .tup [V.int 0, (fun i => V.int (-i)) 1]) n5)
      have ap := S.B.apart n6
      have S := S.new (u := .lst [V.ref t1, .ref t2, .ref t3, .ref t4, .ref t5, .ref i1]) n6
      refine ⟨_, rfl, b, 6, rfl, S.B, by decide, fun r7 H7 r70 r77 B7 U7 => ?_⟩
      have hl6 : H7 l6 = some (.lst [V.ref t1, .ref t2, .ref t3, .ref t4, .ref t5, .ref i1]) := U7 l6 _ ap upd_same
      have pick : ∃ (v : Addr) (q : Ins), atI [V.ref t1, V.ref t2, V.ref t3, V.ref t4, V.ref t5, V.ref i1] r7 = some (.ref v) ∧ At K H7 (.ref v) (some q) := by
        have c : r7 = 0 ∨ r7 = 1 ∨ r7 = 2 ∨ r7 = 3 ∨ r7 = 4 ∨ r7 = 5 := by omega
        rcases c with rfl | rfl | rfl | rfl | rfl | rfl
        · exact ⟨_, _, rfl, A1.but S.B U7⟩
        · exact ⟨_, _, rfl, A2.but S.B U7⟩
        · exact ⟨_, _, rfl, A3.but S.B U7⟩
        · exact ⟨_, _, rfl, A4.but S.B U7⟩
        · exact ⟨_, _, rfl, A5.but S.B U7⟩
        · exact ⟨_, _, rfl, S.one.but S.B U7⟩
      obtain ⟨fi, qf, hf, af⟩ := pick
      refine ⟨l6, _, _, _, rfl, rfl, SqL.of hl6, hf, ?_⟩
      have B8 := B7
      clear hf hl6 U7 ap A1 A2 A3 A4 A5
      -- good
      refine ⟨fun σ H => ∃ g : Bool, σ = [some (.ref a), some (.ref b), some (.int (0 + m)), some (.ref i1), some w2, some (.int k), some w6, some (.ref fi), some (.bl g), v9] ∧ Box H b ∧ At K H (.ref fi) (some qf) ∧ (g = true ↔ Good qf), ?_, ?_⟩
      · refine ⟨_, rfl, fi, _, _, _, rfl, rfl, af.sq, rfl, _, _, rfl, rfl, _, rfl, ite2 (fun c1 => ?_) (fun c1 => ?_)⟩
        · have c1 := of_decide_eq_true c1
          refine ⟨_, _, rfl, rfl, _, rfl, ite2 (fun c2 => ?_) (fun c2 => ?_)⟩
          · have c2 := of_decide_eq_true c2
            refine ⟨_, rfl, fi, _, _, _, rfl, rfl, af.sq, rfl, _, _, rfl, rfl, _, rfl, ite2 (fun c3 => ?_) (fun c3 => ?_)⟩
            · have c3 := of_decide_eq_true c3
              refine ⟨_, _, rfl, rfl, _, rfl, B8, af, ⟨fun g => ⟨⟨c1, c2⟩, ⟨c3, of_decide_eq_true g⟩⟩, fun g => decide_eq_true g.2.2⟩⟩
            · have c3 : ¬ 0 ≤ qf.2 := fun y => c3 (decide_eq_true y)
              exact ⟨_, rfl, B8, af, ⟨fun g => Bool.noConfusion g, fun g => absurd g.2.1 c3⟩⟩
          · have c2 : ¬ qf.1 ≤ 1000000 := fun y => c2 (decide_eq_true y)
            exact ⟨_, rfl, B8, af, ⟨fun g => Bool.noConfusion g, fun g => absurd g.1.2 c2⟩⟩
        · have c1 : ¬ 0 ≤ qf.1 := fun y => c1 (decide_eq_true y)
          refine ⟨_, rfl, iteF ⟨_, rfl, B8, af, ⟨fun g => Bool.noConfusion g, fun g => absurd g.1.1 c1⟩⟩⟩
      rintro σ H ⟨g, rfl, BB, af, hg⟩
      -- by each name
      refine ⟨two, fun tp ntp => ⟨tp, rfl, ⟨_, SqT.of upd_same⟩, ?_⟩⟩
      refine for_tup (K := K) (a := tp) (xs := [V.str "instant", V.str "start"]) (fun j σ H => ∃ (v6 v9 : Option V), σ = [some (.ref a), some (.ref b), some (.int (0 + m)), some (.ref i1), some w2, some (.int k), v6, some (.ref fi), some (.bl g), v9] ∧ Box H b ∧ At K H (.ref fi) (some qf) ∧ H tp = some (.tup [V.str "instant", V.str "start"]))
        ⟨_, _, rfl, BB.new ntp, af.new ntp, upd_same⟩ (fun j σ H _ ⟨_, _, _, _, _, h⟩ => SqT.of h) ?_ ?_
      · rintro j x σ H hx ⟨v6, v9, rfl, B1, af, htp⟩
        obtain ⟨z, hz, rfl⟩ : ∃ z : Str, (z = "instant" ∨ z = "start") ∧ x = .str z := by
          match j, hx with
          | 0, hx => exact ⟨_, .inl rfl, (Option.some.inj hx).symm⟩
          | 1, hx => exact ⟨_, .inr rfl, (Option.some.inj hx).symm⟩
          | j + 2, hx => simp at hx
        refine ⟨_, rfl, two, fun td ntd => ?_⟩
        have B1 := B1.new (o := .tup [V.str "refused", V.str z]) ntd
        have af := af.new (u := .tup [V.str "refused", V.str z]) ntd
        have htp := same_new (o := .tup [V.str "refused", V.str z]) ntd _ _ htp
        refine ⟨fun σ H => ∃ w6, σ = [some (.ref a), some (.ref b), some (.int (0 + m)), some (.ref i1), some w2, some (.int k), some w6, some (.ref fi), some (.bl g), some (.str z)] ∧ Box H b ∧ At K H (.ref fi) (some qf) ∧ H tp = some (.tup [V.str "instant", V.str "start"]) ∧
          (Good qf → w6 = .non) ∧ (¬ Good qf → w6 = .ref td ∧ H td = some (.tup [V.str "refused", V.str z])), ?_, ?_⟩
        · refine ⟨_, rfl, g, rfl, ite2 (fun c => ?_) (fun c => ?_)⟩
          · exact ⟨_, rfl, B1, af, htp, fun _ => rfl, fun bad => absurd (hg.mp c) bad⟩
          · exact ⟨_, rfl, B1, af, htp, fun good => absurd (hg.mpr good) c, fun _ => ⟨rfl, upd_same⟩⟩
        rintro σ H ⟨w6, rfl, B1, af, htp, good, bad⟩
        obtain ⟨zz, hat, hzz, ezz⟩ : ∃ zz : Str, atI [V.str "", V.str z] (if decide (V.str z = V.str "start") = true then 1 else 0) = some (.str zz) ∧ zz.length ≤ 1000 ∧ (if zz = "" then ("instant" : Str) else zz) = z := by
          rcases hz with rfl | rfl
          · exact ⟨"", by decide +kernel, by decide +kernel, by decide +kernel⟩
          · exact ⟨"start", by decide +kernel, by decide +kernel, by decide +kernel⟩
        have sz : Short (.tuple [.str "refused", .str z]) := by
          rcases hz with rfl | rfl
          · exact .of (by decide +kernel) (by decide +kernel) (by decide +kernel) (by decide +kernel) (by decide +kernel)
          · exact .of (by decide +kernel) (by decide +kernel) (by decide +kernel) (by decide +kernel) (by decide +kernel)
        refine ⟨_, rfl, _, rfl, two, fun l nl => ⟨_, rfl, rfl, .inr ⟨_, rfl, l, _, _, _, rfl, rfl, SqL.of upd_same, hat, ?_⟩⟩⟩
        have sl := same_new (o := .lst [V.str "", V.str z]) nl
        refine ⟨.ref fi, qf, zz, rfl, af.same sl, hzz, fun gd H2 s2 => ?_, fun bd t H2 s2 ht => ?_⟩
        · have e := good gd
          subst e
          exact ⟨_, rfl, _, _, .none, rfl, .non, .non, .of rfl rfl (by decide) (by decide) (by decide), _, rfl, iteF ⟨_, _, rfl, (B1.same sl).same s2, (af.same sl).same s2, s2 _ _ (sl _ _ htp)⟩⟩
        · obtain ⟨e, htd⟩ := bad bd
          subst e
          rw [ezz] at ht
          exact ⟨_, rfl, _, _, .tuple [.str "refused", .str z], rfl, .tup (SqT.of ht) (.cons (.str _) (.cons (.str _) .nil)), .tup (SqT.of (s2 _ _ (sl _ _ htd))) (.cons (.str _) (.cons (.str _) .nil)), sz, _, rfl,
            iteF ⟨_, _, rfl, (B1.same sl).same s2, (af.same sl).same s2, s2 _ _ (sl _ _ htp)⟩⟩
      · rintro σ H ⟨v6, v9, rfl, B1, af, htp⟩
        exact ⟨_, _, _, _, _, _, _, _, rfl, B1⟩
    · rintro σ H2 ⟨v2, v3, v4, v5, v6, v7, v8, v9, rfl, B2⟩
      refine ⟨.non, .non, none, none, rfl, rfl, rfl, fun v hv _ => ⟨rfl, ?_⟩⟩
      cases hv
      exact q _
end
end LB

set_option maxRecDepth 100000
set_option maxHeartbeats 8000000
namespace LB
open PySem PySem.Spec PyProof.Rows L2
open PySem.W (nsIn findIn subIn typeIn mroIn keepIn codeIn hasDictIn isClsIn specialIn takesIn)
theorem kit_same {K : PySem.W.Frag} {c : Value} : PySem.W.kitOne K c c = some true := by
  unfold PySem.W.kitOne
  rw [if_pos (beq_self_eq_true c)]
theorem kit_other {K : PySem.W.Frag} {C D : Addr} (ht : typeIn K (.ref D) = some (.type "type")) (hi : isClsIn K D = true) (h : subIn K (.ref C) (.ref D) = some false) (hs : subIn K (.ref C) (.ref C) = some true) : PySem.W.kitOne K (.ref C) (.ref D) = some false := by
  unfold PySem.W.kitOne
  have ne : ¬ ((Value.ref C == Value.ref D) = true) := fun z => by
    have e : C = D := Value.ref.inj (beq_iff_eq.mp z)
    rw [← e, hs] at h
    cases h
  rw [if_neg ne]
  show (if ((PySem.W.clsIn K D).isSome && typeIn K (.ref D) == some (.type "type")) = true then subIn K (.ref C) (.ref D) else none) = some false
  have hi' : (PySem.W.clsIn K D).isSome = true := hi
  rw [if_pos (by rw [ht, hi'] <;> rfl), h]
/-- the law's def keeps its promise, from what the top has written -/
theorem all_mk {l : PySem.W.OpenLaw} {w : World} {K : PySem.W.Frag} {h : Heap} {mg : Str → Option Value} {fa : Addr} (X : K.In h) (G : h.Ns mainGlobals mg) (hfa : mg "law" = some (.ref fa))
    {fCell fDig fDr fIn fAl fLa fNe fEa fEr fNa fRe fLw fCk TD C B T' fI cc cda N0 : Addr} {odCell anCell odDig anDig odDr anDr odIn anIn odAl anAl odLa anLa odNe anNe odEa anEa odEr anEr odNa anNa odRe anRe odLw anLw odCk anCk odT odI anI ocd cdd : Option Addr} {slCell slDig slDr slIn slAl slLa slNe slEa slEr slNa slRe slLw slCk slT slI csl ccs : Array (Option Value)} {ocCell kVCell dcCell pmCell cdCell ctCell ocDig kVDig dcDig pmDig cdDig ctDig ocDr kVDr dcDr pmDr cdDr ctDr ocIn kVIn dcIn pmIn cdIn ctIn ocAl kVAl dcAl pmAl cdAl ctAl ocLa kVLa dcLa pmLa cdLa ctLa ocNe kVNe dcNe pmNe cdNe ctNe ocEa kVEa dcEa pmEa cdEa ctEa ocEr kVEr dcEr pmEr cdEr ctEr ocNa kVNa dcNa pmNa cdNa ctNa ocRe kVRe dcRe pmRe cdRe ctRe ocLw kVLw dcLw pmLw cdLw ctLw ocCk kVCk dcCk pmCk cdCk ctCk ocT ocI dcI pmI ctI clc ccl : Value}
    {nm qn file : Str} {bs : List Value} {sn : List Str} {sub : List Value} {ab : Bool} {col : Option Bool} {dd : Option Addr} {m0 m1 m2 m3 m5 : Option Value} {vs : Array Value} {tf tkT t1 t2 : Tok} {nT : Nat}
    (aCell : nsIn K mainGlobals "_law_cell" = some (some (.ref fCell)))
    (lCell : K.lookup fCell = some ⟨ocCell, odCell, .func (PySem.W.fnOf "_law_cell" "_law_cell" (defArgs sCell) (defBody sCell) (defScope sCell) .none kVCell dcCell pmCell anCell cdCell ctCell), slCell⟩)
    (cCell : codeIn K cdCell "_law_cell" = true)
    (kCell : keepIn K (.ref fCell) = true)
    (aDig : nsIn K mainGlobals "_law_digits" = some (some (.ref fDig)))
    (lDig : K.lookup fDig = some ⟨ocDig, odDig, .func (PySem.W.fnOf "_law_digits" "_law_digits" (defArgs sDigits) (defBody sDigits) (defScope sDigits) .none kVDig dcDig pmDig anDig cdDig ctDig), slDig⟩)
    (cDig : codeIn K cdDig "_law_digits" = true)
    (kDig : keepIn K (.ref fDig) = true)
    (aDr : nsIn K mainGlobals "_law_draw" = some (some (.ref fDr)))
    (lDr : K.lookup fDr = some ⟨ocDr, odDr, .func (PySem.W.fnOf "_law_draw" "_law_draw" (defArgs sDraw) (defBody sDraw) (defScope sDraw) .none kVDr dcDr pmDr anDr cdDr ctDr), slDr⟩)
    (cDr : codeIn K cdDr "_law_draw" = true)
    (kDr : keepIn K (.ref fDr) = true)
    (aIn : nsIn K mainGlobals "_law_instant" = some (some (.ref fIn)))
    (lIn : K.lookup fIn = some ⟨ocIn, odIn, .func (PySem.W.fnOf "_law_instant" "_law_instant" (defArgs sInstant) (defBody sInstant) (defScope sInstant) .none kVIn dcIn pmIn anIn cdIn ctIn), slIn⟩)
    (cIn : codeIn K cdIn "_law_instant" = true)
    (kIn : keepIn K (.ref fIn) = true)
    (aAl : nsIn K mainGlobals "_law_alike" = some (some (.ref fAl)))
    (lAl : K.lookup fAl = some ⟨ocAl, odAl, .func (PySem.W.fnOf "_law_alike" "_law_alike" (defArgs sAlike) (defBody sAlike) (defScope sAlike) .none kVAl dcAl pmAl anAl cdAl ctAl), slAl⟩)
    (cAl : codeIn K cdAl "_law_alike" = true)
    (kAl : keepIn K (.ref fAl) = true)
    (aLa : nsIn K mainGlobals "later" = some (some (.ref fLa)))
    (lLa : K.lookup fLa = some ⟨ocLa, odLa, .func (PySem.W.fnOf "later" "later" (defArgs sLater) (defBody sLater) (defScope sLater) .none kVLa dcLa pmLa anLa cdLa ctLa), slLa⟩)
    (cLa : codeIn K cdLa "later" = true)
    (kLa : keepIn K (.ref fLa) = true)
    (aNe : nsIn K mainGlobals "next_instant" = some (some (.ref fNe)))
    (lNe : K.lookup fNe = some ⟨ocNe, odNe, .func (PySem.W.fnOf "next_instant" "next_instant" (defArgs sNext) (defBody sNext) (defScope sNext) .none kVNe dcNe pmNe anNe cdNe ctNe), slNe⟩)
    (cNe : codeIn K cdNe "next_instant" = true)
    (kNe : keepIn K (.ref fNe) = true)
    (aEa : nsIn K mainGlobals "earliest" = some (some (.ref fEa)))
    (lEa : K.lookup fEa = some ⟨ocEa, odEa, .func (PySem.W.fnOf "earliest" "earliest" (defArgs sEarliest) (defBody sEarliest) (defScope sEarliest) .none kVEa dcEa pmEa anEa cdEa ctEa), slEa⟩)
    (cEa : codeIn K cdEa "earliest" = true)
    (kEa : keepIn K (.ref fEa) = true)
    (aEr : nsIn K mainGlobals "_law_earlier" = some (some (.ref fEr)))
    (lEr : K.lookup fEr = some ⟨ocEr, odEr, .func (PySem.W.fnOf "_law_earlier" "_law_earlier" (defArgs sEarlier) (defBody sEarlier) (defScope sEarlier) .none kVEr dcEr pmEr anEr cdEr ctEr), slEr⟩)
    (cEr : codeIn K cdEr "_law_earlier" = true)
    (kEr : keepIn K (.ref fEr) = true)
    (aNa : nsIn K mainGlobals "not_after" = some (some (.ref fNa)))
    (lNa : K.lookup fNa = some ⟨ocNa, odNa, .func (PySem.W.fnOf "not_after" "not_after" (defArgs sNotAfter) (defBody sNotAfter) (defScope sNotAfter) .none kVNa dcNa pmNa anNa cdNa ctNa), slNa⟩)
    (cNa : codeIn K cdNa "not_after" = true)
    (kNa : keepIn K (.ref fNa) = true)
    (aRe : nsIn K mainGlobals "_law_refused" = some (some (.ref fRe)))
    (lRe : K.lookup fRe = some ⟨ocRe, odRe, .func (PySem.W.fnOf "_law_refused" "_law_refused" (defArgs sRefused) (defBody sRefused) (defScope sRefused) .none kVRe dcRe pmRe anRe cdRe ctRe), slRe⟩)
    (cRe : codeIn K cdRe "_law_refused" = true)
    (kRe : keepIn K (.ref fRe) = true)
    (aLw : nsIn K mainGlobals "law" = some (some (.ref fLw)))
    (lLw : K.lookup fLw = some ⟨ocLw, odLw, .func (PySem.W.fnOf "law" "law" (defArgs sLaw) (defBody sLaw) (defScope sLaw) .none kVLw dcLw pmLw anLw cdLw ctLw), slLw⟩)
    (cLw : codeIn K cdLw "law" = true)
    (kLw : keepIn K (.ref fLw) = true)
    (aCk : nsIn K mainGlobals "check_instant" = some (some (.ref fCk)))
    (lCk : K.lookup fCk = some ⟨ocCk, odCk, .func (PySem.W.fnOf "check_instant" "check_instant" (defArgs sCheck) (defBody sCheck) (defScope sCheck) (.ref TD) kVCk dcCk pmCk anCk cdCk ctCk), slCk⟩)
    (cCk : codeIn K cdCk "check_instant" = true)
    (kCk : keepIn K (.ref fCk) = true)
    (lT : K.lookup TD = some ⟨ocT, odT, .seq #[Value.str "instant" tkT] nT, slT⟩)
    (aC : nsIn K mainGlobals "OutOfRange" = some (some (.ref C)))
    (aB : nsIn K mainGlobals "ForetoldError" = some (some (.ref B)))
    (aT : nsIn K mainGlobals "TextFault" = some (some (.ref T')))
    (xL : K.lookup C = some (excClassObj nm qn C N0 bs (.ref B :: veMro) true sn sub ab col dd m0 m1 m2 m3 m5 "ValueError.__new__"))
    (sa : findIn K (.ref C) "__setattr__" = some (some (.builtin "object.__setattr__")))
    (ga : findIn K (.ref C) "__getattribute__" = some (some (.builtin "BaseException.__getattribute__")))
    (gg : findIn K (.ref C) "__getattr__" = some none)
    (gn : findIn K (.ref C) "name" = some none)
    (iC : findIn K (.ref C) "__init__" = some (some (.ref fI)))
    (tI : typeIn K (.ref fI) = some (.type "function"))
    (kC : keepIn K (.ref C) = true)
    (eC : subIn K (.ref C) (.type "BaseException") = some true)
    (vC : subIn K (.ref C) (.type "ValueError") = some true)
    (tC : typeIn K (.ref C) = some (.type "type"))
    (hC : hasDictIn K C = true)
    (mC : mroIn K C (.ref C) = some true)
    (up : PySem.W.ks_superIn K C C "__init__" = some (some (.builtin "ValueError.__init__")))
    (xM : PySem.W.excInitIn K C veMro "ValueError.__new__" = true)
    (op : nsIn K cStatics "thirdparty.any" = some none)
    (nS : nsIn K mainGlobals "super" = some none)
    (lI : K.lookup fI = some ⟨ocI, odI, .func (PySem.W.ksFn "__init__" "OutOfRange.__init__" (eA ⟨13, 17, 13, 21⟩ ⟨13, 23, 13, 27⟩) (eB " is out of range" 0 ⟨14, 8, 14, 13⟩ ⟨14, 8, 14, 15⟩ ⟨14, 8, 14, 24⟩ ⟨14, 28, 14, 32⟩ ⟨14, 27, 14, 33⟩ ⟨14, 33, 14, 49⟩ ⟨14, 25, 14, 50⟩ ⟨14, 8, 14, 51⟩ ⟨14, 8, 14, 51⟩ ⟨15, 8, 15, 12⟩ ⟨15, 8, 15, 17⟩ ⟨15, 20, 15, 24⟩ ⟨15, 8, 15, 24⟩) eS .none .none dcI pmI anI (.ref cda) ctI cc), slI⟩)
    (cI : codeIn K (.ref cda) "OutOfRange.__init__" = true)
    (lc : K.lookup cc = some ⟨clc, ocd, .cell (some (.ref C)), csl⟩)
    (ld : K.lookup cda = some ⟨ccl, cdd, .fields vs, ccs⟩)
    (lv : vs[2]? = some (.str file tf))
    (lf : ((l.prog.main.file : Str) == file) = true)
    (lt : (l.prog.main.scope.names.lookup ("super" : Str)).isSome = false)
    (sB : subIn K (.ref C) (.ref B) = some true)
    (eB' : subIn K (.ref B) (.type "BaseException") = some true)
    (tB : typeIn K (.ref B) = some (.type "type"))
    (hB : hasDictIn K B = true)
    (sT : subIn K (.ref C) (.ref T') = some false)
    (sC : subIn K (.ref C) (.ref C) = some true)
    (tT : typeIn K (.ref T') = some (.type "type"))
    (iT : isClsIn K T' = true)
    (hc1 : findIn K (.ref C) "__class__" = some (some (.builtin "object.__class__")))
    (hc2 : specialIn K (.builtin "object.__class__") "__get__" = some (some (.builtin "getset_descriptor.__get__")))
    (hc3 : takesIn K (.builtin "object.__class__") = some true)
    (hc4 : mroIn K C (.type "object") = some true)
    (z1 : nsIn K mainGlobals "len" = some none)
    (z2 : nsIn K mainGlobals "range" = some none)
    (z3 : nsIn K mainGlobals "int" = some none)
    (z4 : nsIn K mainGlobals "repr" = some none)
    (z5 : nsIn K mainGlobals "isinstance" = some none)
    (n1 : nsIn K mainGlobals "TIME_MOST" = some (some (.int 1000000 t1)))
    (n2 : nsIn K mainGlobals "ROUND_MOST" = some (some (.int 1000 t2))) :
    ∃ fd : FuncData, (∀ (s : Shared) (u : Value), BindsTo s fd ⟨[u], []⟩ [("script", u)]) ∧ ∀ base : Heap, K.In base → base.Ns mainGlobals mg → FnG l.prog w K mg base CX0 5 fa fd ["script"] (spLaw K) := by
  have FCell := fun_mk (st := sCell) lCell cCell kCell
  have bCell := FCell.binds (ps := ["script", "k"]) fun _ _ _ _ _ _ us hl => match us, hl with | [_, _], _ => rfl
  have mCell := PySem.W.mg_of X G aCell
  have FDig := fun_mk (st := sDigits) lDig cDig kDig
  have bDig := FDig.binds (ps := ["script", "first", "last"]) fun _ _ _ _ _ _ us hl => match us, hl with | [_, _, _], _ => rfl
  have mDig := PySem.W.mg_of X G aDig
  have FDr := fun_mk (st := sDraw) lDr cDr kDr
  have bDr := FDr.binds (ps := ["box", "many"]) fun _ _ _ _ _ _ us hl => match us, hl with | [_, _], _ => rfl
  have mDr := PySem.W.mg_of X G aDr
  have FIn := fun_mk (st := sInstant) lIn cIn kIn
  have bIn := FIn.binds (ps := ["box"]) fun _ _ _ _ _ _ us hl => match us, hl with | [_], _ => rfl
  have mIn := PySem.W.mg_of X G aIn
  have FAl := fun_mk (st := sAlike) lAl cAl kAl
  have bAl := FAl.binds (ps := ["one", "two"]) fun _ _ _ _ _ _ us hl => match us, hl with | [_, _], _ => rfl
  have mAl := PySem.W.mg_of X G aAl
  have FLa := fun_mk (st := sLater) lLa cLa kLa
  have bLa := FLa.binds (ps := ["instant", "ticks"]) fun _ _ _ _ _ _ us hl => match us, hl with | [_, _], _ => rfl
  have mLa := PySem.W.mg_of X G aLa
  have FNe := fun_mk (st := sNext) lNe cNe kNe
  have bNe := FNe.binds (ps := ["instant"]) fun _ _ _ _ _ _ us hl => match us, hl with | [_], _ => rfl
  have mNe := PySem.W.mg_of X G aNe
  have FEa := fun_mk (st := sEarliest) lEa cEa kEa
  have bEa := FEa.binds (ps := ["one", "two"]) fun _ _ _ _ _ _ us hl => match us, hl with | [_, _], _ => rfl
  have mEa := PySem.W.mg_of X G aEa
  have FEr := fun_mk (st := sEarlier) lEr cEr kEr
  have bEr := FEr.binds (ps := ["one", "two"]) fun _ _ _ _ _ _ us hl => match us, hl with | [_, _], _ => rfl
  have mEr := PySem.W.mg_of X G aEr
  have FNa := fun_mk (st := sNotAfter) lNa cNa kNa
  have bNa := FNa.binds (ps := ["instant", "cancel"]) fun _ _ _ _ _ _ us hl => match us, hl with | [_, _], _ => rfl
  have mNa := PySem.W.mg_of X G aNa
  have FRe := fun_mk (st := sRefused) lRe cRe kRe
  have bRe := FRe.binds (ps := ["instant", "what"]) fun _ _ _ _ _ _ us hl => match us, hl with | [_, _], _ => rfl
  have mRe := PySem.W.mg_of X G aRe
  have FLw := fun_mk (st := sLaw) lLw cLw kLw
  have low : Oor K mg l.prog "OutOfRange" C fI cc cda :=
    { gC := PySem.W.mg_of X G aC, cls := ⟨nm, qn, N0, bs, _, sn, sub, ab, col, dd, m0, m1, m2, m3, m5, xL, by rfl⟩, sa := sa, ga := ga, gg := gg, noN := gn, iC := iC, tC := tI, kC := kC, exC := eC, veC := vC, tyC := tC, hdC := hC, me := mC, up := up, made := xM, op := op,
      mgS := PySem.W.mg_none_of X G nS, top := lt, cell := ⟨_, _, _, lc⟩, code := ⟨_, _, _, _, _, _, ld, lv, lf⟩, fn := ⟨_, _, _, _, _, _, _, _, _, _, _, _, _, _, _, _, _, _, _, _, _, _, _, _, _, lI, cI, by decide +kernel, rfl⟩ }
  have FCk : FunD K "check_instant" "check_instant" (defArgs sCheck) (defBody sCheck) (defScope sCheck) [V.str "instant"] [] fCk _ :=
    ⟨⟨_, _, _, _, _, _, _, _, _, _, rfl, lCk, cCk, .inr ⟨by simp, TD, _, [Value.str "instant" tkT], nT, rfl, lT, rfl, .cons ⟨tkT, rfl⟩ .nil⟩, .inl rfl⟩, kCk⟩
  have E : Errs K mg l.prog B C T' fI cc cda :=
    { oor := low, isF := ⟨hc1, hc2, hc3, hc4⟩, gB := PySem.W.mg_of X G aB, gT := PySem.W.mg_of X G aT, exB := PySem.W.exm_ref eB' hB tB sB, k1 := kit_same, k2 := kit_other tT iT sT sC, isi := PySem.W.mg_none_of X G z5,
      tm := ⟨t1, PySem.W.mg_of X G n1⟩, rm := ⟨t2, PySem.W.mg_of X G n2⟩ }
  have M : Names mg := ⟨PySem.W.mg_none_of X G z1, PySem.W.mg_none_of X G z2, PySem.W.mg_none_of X G z3, PySem.W.mg_none_of X G z4⟩
  obtain ⟨e1, v1, b1⟩ := FCk.binds1 (ps := ["instant", "what"]) 1 0 (by simp) rfl fun _ _ _ _ _ _ _ us its hu hi => match us, its, hu, hi with | [_], [_], _, _ => ⟨_, rfl, rfl⟩
  obtain ⟨e2, v2, b2⟩ := FCk.binds1 (ps := ["instant", "what"]) 2 1 (by simp) rfl fun _ _ _ _ _ _ _ us its hu hi => match us, its, hu, hi with | [_, _], [_], _, _ => ⟨_, rfl, rfl⟩
  cases v2
  have e := hfa.symm.trans (PySem.W.mg_of X G aLw)
  cases e
  refine ⟨_, fun s v => .of_eq rfl, fun base _ _ => ok_law (C := C) FLw ?_⟩
  exact
    { D := ⟨_, _, ok_draw FDr M, mDr, kDr, bDr⟩, G := ⟨_, _, ok_digits FDig M FCell mCell bCell, mDig, kDig, bDig⟩, I := ⟨_, _, ok_instant FIn M FDr mDr bDr, mIn, kIn, bIn⟩, A := ⟨_, _, ok_alike FAl M, mAl, kAl, bAl⟩,
      L := ⟨_, _, (ok_later FLa).imp later_imp, mLa, kLa, bLa⟩, X := ⟨_, _, (ok_next FNe).imp next_imp, mNe, kNe, bNe⟩, E := ⟨_, _, ok_earliest FEa FNa mNa bNa, mEa, kEa, bEa⟩, F := ⟨_, _, ok_earlier FEr, mEr, kEr, bEr⟩,
      N := ⟨_, _, ok_notafter FNa, mNa, kNa, bNa⟩, R := ⟨_, _, ok_refused FRe FCk (PySem.W.mg_of X G aCk) b1 v1 b2 E, mRe, kRe, bRe⟩, tm := E.tm, rm := E.rm, names := M }
end LB

open PySem PySem.W PyProof.Rows
set_option maxRecDepth 100000 in
set_option maxHeartbeats 0 in
theorem PySem.Challenge.cw_asforetold_k01_instants_holds : PySem.Challenge.rw_asforetold_k01_instants.Holds := by
  w_on; o_law; k_head; (case hw => w_witness2)
  k_fill
  refine LB.walk_free (l := PySem.Challenge.rw_asforetold_k01_instants) (n := 63) (k := 5) (x := "script") (CX := L2.CX0) (sp := LB.spLaw) rfl (by decide) rfl ⟨rfl, by decide, by decide⟩ (fun w h Y => PySem.W.kIn_of Y) ?F (fun K H a ns hl _ hS => ⟨a, ns, rfl, hS, fun _ => rfl⟩) fun _ _ _ _ z => z
  case F =>
    intro w mg fa h KX G hmg
    refine' LB.all_mk KX G hmg ?aCell ?lCell ?cCell ?kCell ?aDig ?lDig ?cDig ?kDig ?aDr ?lDr ?cDr ?kDr ?aIn ?lIn ?cIn ?kIn ?aAl ?lAl ?cAl ?kAl ?aLa ?lLa ?cLa ?kLa ?aNe ?lNe ?cNe ?kNe ?aEa ?lEa ?cEa ?kEa ?aEr ?lEr ?cEr ?kEr ?aNa ?lNa ?cNa ?kNa ?aRe ?lRe ?cRe ?kRe ?aLw ?lLw ?cLw ?kLw ?aCk ?lCk ?cCk ?kCk ?lT ?aC ?aB ?aT ?xL ?sa ?ga ?gg ?gn ?iC ?tI ?kC ?eC ?vC ?tC ?hC ?mC ?up ?xM ?op ?nS ?lI ?cI ?lc ?ld ?lv ?lf ?lt ?sB ?eBq ?tB ?hB ?sT ?sC ?tT ?iT ?hc1 ?hc2 ?hc3 ?hc4 ?z1 ?z2 ?z3 ?z4 ?z5 ?n1 ?n2
    (case aCell => k_is)
    (case lCell => k_is)
    (case cCell => k_is)
    (case kCell => k_is)
    (case aDig => k_is)
    (case lDig => k_is)
    (case cDig => k_is)
    (case kDig => k_is)
    (case aDr => k_is)
    (case lDr => k_is)
    (case cDr => k_is)
    (case kDr => k_is)
    (case aIn => k_is)
    (case lIn => k_is)
    (case cIn => k_is)
    (case kIn => k_is)
    (case aAl => k_is)
    (case lAl => k_is)
    (case cAl => k_is)
    (case kAl => k_is)
    (case aLa => k_is)
    (case lLa => k_is)
    (case cLa => k_is)
    (case kLa => k_is)
    (case aNe => k_is)
    (case lNe => k_is)
    (case cNe => k_is)
    (case kNe => k_is)
    (case aEa => k_is)
    (case lEa => k_is)
    (case cEa => k_is)
    (case kEa => k_is)
    (case aEr => k_is)
    (case lEr => k_is)
    (case cEr => k_is)
    (case kEr => k_is)
    (case aNa => k_is)
    (case lNa => k_is)
    (case cNa => k_is)
    (case kNa => k_is)
    (case aRe => k_is)
    (case lRe => k_is)
    (case cRe => k_is)
    (case kRe => k_is)
    (case aLw => k_is)
    (case lLw => k_is)
    (case cLw => k_is)
    (case kLw => k_is)
    (case aCk => k_is)
    (case lCk => k_is)
    (case cCk => k_is)
    (case kCk => k_is)
    (case lT => k_is)
    (case aC => k_is)
    (case aB => k_is)
    (case aT => k_is)
    (case xL => k_is)
    (case sa => k_is)
    (case ga => k_is)
    (case gg => k_is)
    (case gn => k_is)
    (case iC => k_is)
    (case tI => k_is)
    (case kC => k_is)
    (case eC => k_is)
    (case vC => k_is)
    (case tC => k_is)
    (case hC => k_is)
    (case mC => k_is)
    (case up => ks_is)
    (case xM => kx_is)
    (case op => k_is)
    (case nS => k_is)
    (case lI => k_is)
    (case cI => k_is)
    (case lc => k_is)
    (case ld => k_is)
    (case lv => rfl)
    (case lf => (first | rfl | decide +kernel | kernel_rfl))
    (case lt => (first | rfl | decide +kernel | kernel_rfl))
    (case sB => k_is)
    (case eBq => k_is)
    (case tB => k_is)
    (case hB => k_is)
    (case sT => k_is)
    (case sC => k_is)
    (case tT => k_is)
    (case iT => k_is)
    (case hc1 => k_is)
    (case hc2 => k_is)
    (case hc3 => k_is)
    (case hc4 => k_is)
    (case z1 => k_is)
    (case z2 => k_is)
    (case z3 => k_is)
    (case z4 => k_is)
    (case z5 => k_is)
    (case n1 => k_is)
    (case n2 => k_is)

