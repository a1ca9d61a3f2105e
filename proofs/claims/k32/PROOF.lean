import PyProof.Rows.All
import Wide.All
import OpenK.AllK
import Wide.FinOn
import HandS.ForExc
import HandS.EndBits
import HandS.Wide
import HandS.TupLe
import PyProof.StrBlock2
import KE.DataMinMax
import KE.SortData
import HandS.Lambda
import HandS.Iter
import KE.DataMinKey
import KE.LtData
import HandS.Defaults
import HandS.Codes
import HandS.Comp
import HandS.TupAny
import HandS.Star
import HandS.IsInst
import HandS.Walk
import PySem.Challenge.RW_asforetold_k32_answers_of_scopes
set_option Elab.async false
set_option linter.all false
set_option maxRecDepth 100000
set_option maxHeartbeats 2000000
namespace LB
open PySem PySem.Spec PyProof.Rows L2
/-! ### defs that are called where no repr is under way -/
def Free (A : Around) : Prop := A.guards = some []
/-- as a def's promise, but told of calls from places at which no repr is under way alone -/
structure FnG (P : Program) (w : World) (K : PySem.W.Frag) (mg : Str → Option Value) (base : Heap) (CX : CXT) (k : Nat) (f : Addr) (fd : FuncData) (ps : List Str) (sp : Sp) : Prop where
  many : ∀ xs H Q E, sp xs H Q E → xs.length = ps.length
  goes : ∀ (A : Around) (fr : List Env) (s : Shared) (H : Hp) (a : Args) (us : List Value) (xs : List V) (Q : VK) (E : XK), Free A → Room k A → Env0 P w K mg base A fr s H →
    BindsTo s fd a (ps.zip us) → Vals xs us → sp xs H Q E → codeAny (model P w) A (.call (.ref f) a) (CR CX fr P w H s Q E) s
theorem FnG.ofOk {P : Program} {w : World} {K : PySem.W.Frag} {mg : Str → Option Value} {base : Heap} {CX : CXT} {k : Nat} {f : Addr} {fd : FuncData} {ps : List Str} {sp : Sp} (F : FnOk P w K mg base CX k f fd ps sp) : FnG P w K mg base CX k f fd ps sp :=
  ⟨F.len, fun A fr s H a us xs Q E _ => F.run A fr s H a us xs Q E⟩
theorem FnG.up {P : Program} {w : World} {K : PySem.W.Frag} {mg : Str → Option Value} {base : Heap} {CX : CXT} {j k : Nat} {f : Addr} {fd : FuncData} {ps : List Str} {sp : Sp} (F : FnG P w K mg base CX j f fd ps sp) (h : j ≤ k) : FnG P w K mg base CX k f fd ps sp :=
  ⟨F.many, fun A fr s H a us xs Q E g r => F.goes A fr s H a us xs Q E g (r.mono h)⟩
theorem Free.deeper {A : Around} (g : Free A) (env : Env) : Free (A.deeper env) := by
  first
    | exact g
    | (unfold Free at *; simpa [Around.deeper] using g)
/-- by the body, as fn_of -/
theorem FnG.by_body {CX : CXT} {P : Program} {w : World} {K : PySem.W.Frag} {mg : Str → Option Value} {base : Heap} {k : Nat} {f : Addr} {x q : Str} {pa : Arguments} {bd : List Stmt} {sc : Scope} {v1 v2 v3 v4 v5 v6 v7 : Value} {a1 a2 : Option Addr}
    {sl : Array (Option Value)} {N ps : List Str} {sp : Sp} (at_ : K.lookup f = some ⟨v7, a2, .func (PySem.W.fnOf x q pa bd sc v1 v2 v3 v4 a1 v5 v6), sl⟩) (code : PySem.W.codeIn K v5 q = true) (S : FnScope N ps sc)
    (many : ∀ xs H Q E, sp xs H Q E → xs.length = ps.length)
    (body : ∀ (A : Around) (fr : List Env) (s : Shared) (H : Hp) (xs : List V) (Q : VK) (E : XK), Free (A.deeper (envOfC q sc s.heap.objs.size f v5)) → Room k (A.deeper (envOfC q sc s.heap.objs.size f v5)) → sp xs H Q E →
      ∃ t, PSs (cxOf CX P w K mg base N q sc f v5 A fr s H E) bd t ∧ t { nx := fun _ H' => Q .non H', rt := Q } (start N xs) H) :
    FnG P w K mg base CX (k + 1) f (PySem.W.fnOf x q pa bd sc v1 v2 v3 v4 a1 v5 v6) ps sp := by
  constructor
  · exact many
  intro A fr s H a us xs Q E g room e0 bound vals want
  have kin : K.In s.heap := e0.mod.kin.keeps fun b o z => (e0.bs b o z).1
  have nolim : s.heap.NoLimit := e0.mod.nolimit.keeps fun b o z => (e0.bs b o z).1
  have len := many _ _ _ _ want
  obtain ⟨t, derived, reads⟩ := body A fr s H xs Q E (g.deeper _) (room.deeper _) want
  have kinds : ∀ y ∈ ps.zip us, sc.names.lookup y.1 = some .local ∨ (sc.names.lookup y.1 = some .cell ∧ ((cellsFrom (s.heap.objs.size + 1) sc.names []).lookup y.1).isSome = true) := by
    rintro ⟨n, v⟩ hy
    cases S.par n (List.of_mem_zip hy).1 with
    | inl z => exact .inl z
    | inr z => exact .inr ⟨z, PySem.W.cellsFrom_some _ _ _ (.inl z)⟩
  refine codeAny_call_function room.depth (kin _ _ at_) rfl S.co S.gen rfl (PySem.W.codeRec_of kin code) (bound _ _ _ _ ?_)
  refine wpAny_newFunctionEnv_cells S.kind kinds ?_
  intro env he s1 into
  subst he
  refine ⟨nolim.keeps into.toInCall.keep, codeAny_func ?_⟩
  have I := inv_start (CX := CX) (E := E) S room.hd e0 len vals into
  refine wpAny_mono (derived.run [] s1 (start N xs) H _ I reads) ?_ (fun _ _ z => z)
  intro fl s2 z
  cases fl with
  | next =>
    obtain ⟨σ2, H2, J, q⟩ := z
    exact ⟨.non, H2, J.os, J.bare, J.base, J.hok, rfl, q⟩
  | ret u =>
    obtain ⟨v, σ2, H2, J, r, q⟩ := z
    exact ⟨v, H2, J.os, J.bare, J.base, J.hok, r, q⟩
  | brk =>
    obtain ⟨_, _, _, q⟩ := z
    exact q.elim
  | cont =>
    obtain ⟨_, _, _, q⟩ := z
    exact q.elim
theorem FnG.of_fun {P : Program} {w : World} {K : PySem.W.Frag} {mg : Str → Option Value} {base : Heap} {x q : Str} {st : Stmt} {f : Addr} {fd : FuncData} {N ps : List Str} {k : Nat} {sp : Sp} (F : Fun K x q st f fd) (S : FnScope N ps (defScope st)) (many : ∀ xs H Q E, sp xs H Q E → xs.length = ps.length)
    (body : ∀ (cdv : Value) (A : Around) (fr : List Env) (s : Shared) (H : Hp) (xs : List V) (Q : VK) (E : XK), Free (A.deeper (envOfC q (defScope st) s.heap.objs.size f cdv)) → Room k (A.deeper (envOfC q (defScope st) s.heap.objs.size f cdv)) → sp xs H Q E →
      ∃ t, PSs (cxOf CX0 P w K mg base N q (defScope st) f cdv A fr s H E).nox (defBody st) t ∧ t { nx := fun _ H' => Q .non H', rt := Q } (start N xs) H) : FnG P w K mg base CX0 (k + 1) f fd ps sp := by
  obtain ⟨v7, a2, v2, v3, v4, a1, v5, v6, sl, rfl, at_, code⟩ := F.ex
  refine FnG.by_body at_ code S many ?_
  intro A fr s H xs Q E g r want
  obtain ⟨t, h, q⟩ := body v5 A fr s H xs Q E g r want
  exact ⟨t, h.nox, q⟩
section
variable {X : Cx} {CX : CXT} {k : Nat} {f : Addr} {fd : FuncData} {ps : List Str} {sp : Sp} {dvs : List V} {ds : List Value} {E : XK} {x : Str} {p pos : Pos} {e : Expr} {es : List Expr} {t : TA}
/-- f(e, ..), f such a def -/
theorem pe_callF (g : Free X.A) (F : FnG X.prog X.w X.K X.mg X.base CX k f fd ps sp) (hr : Room k X.A) (hg : Gl X x) (hm : X.mg x = some (.ref f)) (hk : PySem.W.keepIn X.K (.ref f) = true) (hb : Binds X.K fd ps ds) (hd : Vals dvs ds) (hx : Passes CX X E)
    (ha : PA X (e :: es) t) (hdb : (x == ("__debug__" : Str)) = false := by decide) (he : starEach (e :: es) X.env = (false, eval e X.env) :: starEach es X.env := by rfl) (hpl : (backTo pos (starEach es X.env)).any (·.1) = false := by rfl) :
    PE X (.Call (.Name x p) (e :: es) [] pos) (tCall sp dvs E t) := by
  constructor
  intro pins s σ H Q I h
  refine wpAny_Call_Name_kw (ld_glob I hg hm ?_ hdb)
  refine PySem.W.callWith_K (h₀ := X.base) I.ok.mod.kin hk (thn (ha.run pos pins s σ H _ I h) ?_) he hpl
  rintro us s1 ⟨xs, H1, I1, r, q⟩
  refine ⟨I1.kIn, ?_⟩
  have r2 : Vals (xs ++ dvs) (us ++ ds) := r.append hd
  have len : (us ++ ds).length = ps.length := r2.length.symm.trans (F.many _ _ _ _ q)
  refine wpAny_call (codeAny_mono (F.goes X.A X.stack s1 H1 ⟨us, []⟩ (us ++ ds) (xs ++ dvs) Q E g hr I1.env0 (hb s1 us I1.kIn len) r2 q) ?_)
  intro res s2 z
  match res, z with
  | .error err, z => exact hx pins σ H1 s1 err s2 I1 z
  | .ok (.ret u), z => exact I1.after z
  | .ok .next, z => exact False.elim z
  | .ok .brk, z => exact False.elim z
  | .ok .cont, z => exact False.elim z
end
end LB

set_option maxRecDepth 100000
set_option maxHeartbeats 2000000
namespace LB
open PySem PySem.Spec PyProof.Rows L2
/-! ### repr of data -/
/-- data whose repr is short enough to be told -/
structure Short (d : PyData) : Prop where
  sh : d.showable = true
  nd : d.hasDict = false
  dp : d.depth ≤ 50
  len : d.shown.length ≤ sizeLine
def rRepr (K : PySem.W.Frag) : List V → Hp → VK → Prop := fun xs H Q => ∃ v d, xs = [v] ∧ Dp K H v d ∧ Short d ∧ Q (.str d.shown) H
theorem call_repr {X : Cx} (g : Free X.A) (hu : X.A.units + 64 < cLine) : CallR X (.builtin "repr") (rRepr X.K) := by
  intro pins s σ H xs us Q I r h
  obtain ⟨v, d, rfl, hd, S, q⟩ := h
  obtain ⟨u, rfl, ru⟩ := vals1 r
  obtain ⟨as, rd⟩ := Dp.reads I d v u hd ru
  have fin : ∀ (a : Addr), Reads s.heap (.ref a) d as → wpAny (model X.prog X.w) X.A (call (.builtin "repr") [.ref a]) (EP X pins σ Q) X.xe s := fun a ra => by
    have dp := S.dp
    refine repr_of_reads' ra S.sh (PyData.noDict_hsm S.nd) g (by omega) (fun _ _ z => z) ?_ S.len
    intro h' t tk kept
    exact ⟨.str d.shown, H, I.kept kept, ⟨_, rfl⟩, q⟩
  cases rd with
  | none => exact PySem.P.repr_of_none ⟨.str _, H, I.tok _, ⟨_, rfl⟩, q⟩
  | bool b => exact PySem.P.repr_of_bool ⟨.str _, H, I.tok _, ⟨_, rfl⟩, q⟩
  | int i t => exact PySem.P.repr_of_int (by have z := S.sh; simpa [PyData.showable] using z) ⟨.str _, H, I.tok _, ⟨_, rfl⟩, q⟩
  | str x t => exact PySem.P.repr_of_str ⟨.str _, H, I.tok _, ⟨_, rfl⟩, q⟩ S.len
  | list h1 h2 h3 h4 => exact fin _ (.list h1 h2 h3 h4)
  | tuple h1 h2 h3 h4 => exact fin _ (.tuple h1 h2 h3 h4)
  | dict h1 h2 h3 h4 h5 => exact absurd S.nd (by simp [PyData.hasDict])
/-- small ints, texts of up to a million signs in all -/
theorem Short.of {d : PyData} (h1 : d.showable = true) (h2 : d.hasDict = false) (h3 : d.depth ≤ 50) (h4 : d.leavesShort 13 = true) (h5 : d.bulk ≤ 2 ^ 20) : Short d :=
  ⟨h1, h2, h3, PyData.shown_fits_bulk (by decide) (by decide) h4 h5⟩
theorem log_small {i : Int} (h : i.natAbs < 10 ^ 12) : i.natAbs.log2 < 1920 := by
  by_cases z : i.natAbs = 0
  · rw [z]; decide
  · have := (Nat.log2_lt z (k := 1920)).mpr (Nat.lt_trans h (by decide))
    exact this
theorem leaf_small {i : Int} (h : i.natAbs < 10 ^ 12) : (PyData.shown (.int i)).length ≤ 13 := PyData.shown_int_le (by simpa using h)
/-- an int below 10 ^ 12 in size -/
def Sm (i : Int) : Prop := i.natAbs < 10 ^ 12
theorem Sm.of {i : Int} (h1 : -1000000000 ≤ i) (h2 : i ≤ 1000000000) : Sm i := by
  have e : (10 : Nat) ^ 12 = 1000000000000 := by decide
  unfold Sm
  rw [e]
  omega
/-! ### two values of one repr -/
def spAlike (K : PySem.W.Frag) : Sp := fun vs H Q _ => ∃ x y d, vs = [x, y] ∧ Dp K H x d ∧ Dp K H y d ∧ Short d ∧ Q (.bl true) H
end LB

set_option maxRecDepth 100000
set_option maxHeartbeats 2000000
namespace LB
open PySem PySem.Spec PyProof.Rows L2
/-! ### the end of a law's row whose def is told of free places alone -/
section
variable {P : Program} {w : World} {K : PySem.W.Frag} {mg mb : Str → Option Value} {CX : CXT} {k : Nat} {fa a : Addr} {fd : FuncData} {x : Str} {sp : Sp} {z : Shared} {us : List Value} {ns : List Int}
/-- what law answers, from a heap H that tracks the script at most -/
theorem answer_from {H : Hp} (g : z.gens = #[]) (only : Only H) (alone : ∀ b, H b ≠ none → b = a) (isL : ∃ d n, (z.heap.get? a).map Obj.data = some (.seq d n)) (kin : K.In z.heap) (apart : H a ≠ none → K.lookup a = none)
    (ng : z.heap.Ns mainGlobals mg) (nb : z.heap.Ns builtinsNs mb) (boot : ∀ y : Str, y ≠ "__name__" → mb y = bootBuiltins y) (nolim : z.heap.NoLimit) (hok : HOk P w H z.heap) (room : Room k callerA)
    (F : ∀ b : Heap, K.In b → b.Ns mainGlobals mg → FnG P w K mg b CX k fa fd [x] sp) (binds : ∀ (s : Shared) (u : Value), BindsTo s fd ⟨[u], []⟩ [(x, u)])
    (want : sp [.ref a] H (fun v _ => v = .bl true) fun _ _ _ => False) (calm : ∀ e s', CX [] H z (fun _ _ _ => False) e s' → False) :
    codeAny (model P w) callerA (.call (.ref fa) ⟨[.ref a], []⟩) (fun r s' => r = .ok (.ret (.bool true)) ∧ OldK z.heap s'.heap ∧ s'.os = z.os ∧ AllBare s'.gens) z := by
  have dictFree : ∀ {b : Addr} {o : Obj} {es : Array DictEntry} {n : Nat}, z.heap.get? b = some o → o.data = .dict es n → H b = none := by
    intro b o es n at_ da
    by_cases q : H b = none
    · exact q
    · have eb := alone b q
      subst eb
      obtain ⟨d, m, e⟩ := isL
      rw [at_] at e
      have e2 := Option.some.inj e
      rw [da] at e2
      cases e2
  have moved : ∀ {b : Addr} {m : Str → Option Value}, z.heap.Ns b m → (hidT z.heap H).Ns b m := by
    rintro b m ⟨o, es, n, at_, da, r⟩
    exact ⟨o, es, n, hidT_get at_ (dictFree at_ da), da, r⟩
  have kin2 : K.In (hidT z.heap H) := by
    intro b o at_
    refine hidT_get (kin b o at_) ?_
    by_cases q : H b = none
    · exact q
    · have eb := alone b q
      subst eb
      rw [apart q] at at_
      cases at_
  obtain ⟨mc, c1, c2⟩ := nolim
  have e0 : Env0 P w K mg (hidT z.heap H) callerA [] z H :=
    { frames := rfl, mod := ⟨kin2, moved ng, ⟨mb, moved nb, boot⟩, ⟨mc, moved c1, c2⟩⟩, bs := fun _ _ at_ => of_hidT at_, bsz := Nat.le_of_eq (hidT_size _ _), funs := trivial,
      frf := fun b hb => absurd (show b ∈ ([] : List Addr) from hb) List.not_mem_nil, hok := hok, bare := .of_eq g }
  refine codeAny_mono ((F _ kin2 (moved ng)).goes callerA [] z H ⟨[.ref a], []⟩ [.ref a] [.ref a] _ _ rfl room e0 (binds z (.ref a)) (.cons rfl .nil) want) ?_
  intro r s' out
  match r, out with
  | .error e, out => exact (calm e s' out).elim
  | .ok .next, out => exact False.elim out
  | .ok .brk, out => exact False.elim out
  | .ok .cont, out => exact False.elim out
  | .ok (.ret u), out =>
    obtain ⟨v, H', os, bare, un, hok', r', q⟩ := out
    have q' : v = .bl true := q
    subst q'
    have eu : u = Value.bool true := r'
    subst eu
    refine ⟨rfl, OldK.of_keep ?_, os, bare⟩
    intro b o at_
    by_cases q : H b = none
    · exact un.keep b o at_ q (fun y => absurd (show b ∈ ([] : List Addr) from y) List.not_mem_nil) List.not_mem_nil
    · rcases only b with y | ⟨ob, xs, y⟩
      · exact absurd y q
      · obtain ⟨e1, _⟩ := hok b _ y
        obtain ⟨e2, _⟩ := hok' b _ (un.frzs b ob _ y)
        rw [at_] at e1
        cases e1
        exact e2
end
theorem walk_free {l : PySem.W.OpenLaw} {n k : Nat} {q : Program} {loose : List Str} {XP : (Str → Option Value) → Heap → Prop} {YP : World → Heap → Prop} {d : DefRec} {K : Params → PySem.W.Frag} {CX : CXT} {sp : PySem.W.Frag → Sp} {x : Str}
    (most : l.most = some n) (small : n ≤ sizeLine) (plain : d.params.defaults = []) (room : Room k callerA) (hY : ∀ (w : World) (h : Heap), YP w h → (K w.params).In h)
    (F : ∀ (w : World) (mg : Str → Option Value) (fa : Addr) (h : Heap), (K w.params).In h → h.Ns mainGlobals mg → mg d.name = some (.ref fa) →
      ∃ fd : FuncData, (∀ (s : Shared) (u : Value), BindsTo s fd ⟨[u], []⟩ [(x, u)]) ∧ ∀ base : Heap, (K w.params).In base → base.Ns mainGlobals mg → FnG l.prog w (K w.params) mg base CX k fa fd [x] (sp (K w.params)))
    (want : ∀ (K : PySem.W.Frag) (H : Hp) (a : Addr) (ns : List Int), ns.length ≤ n → (∀ i ∈ ns, Builtin.Int.intBits i ≤ 1048576) → SqL K H a (ns.map V.int) → sp K [.ref a] H (fun v _ => v = .bl true) fun _ _ _ => False)
    (calm : ∀ (H : Hp) (s : Shared) (e : Value) (s' : Shared), CX [] H s (fun _ _ _ => False) e s' → False) :
    PySem.W.WalkO q loose XP YP l.row.toRowW d [] (fun f vs => PySem.call f vs) := by
  refine Att.attach_callB most plain ?_
  intro w s₀ z mg mb fa o pm cd doc a us ns G Y ho hd hcd hmg at_ nums len bits g
  have kin := hY w _ Y
  obtain ⟨fd, hb, hF⟩ := F w mg fa _ kin G.T.g hmg
  have vals := vals_ints nums
  have lenU : us.length = ns.length := nums.length
  have lenS : (ns.map V.int).length ≤ sizeLine := by rw [List.length_map]; exact Nat.le_trans len small
  have isL : ∃ d n, (z.heap.get? a).map Obj.data = some (.seq d n) := ⟨us.toArray, _, by rw [at_]; rfl⟩
  cases lk : (K w.params).lookup a with
  | some ob =>
    have eo := kin a ob lk
    rw [at_] at eo
    cases eo
    refine answer_from (H := fun _ => none) g (fun _ => .inl rfl) (fun b y => absurd rfl y) isL kin (fun y => absurd rfl y) G.T.g G.T.b G.T.builtins G.T.nolimit (fun b u y => by cases (show (none : Option HO) = some u from y)) room hF hb ?_ fun e s' => calm _ z e s'
    exact want _ _ a ns len bits (.inr ⟨_, us.toArray, _, lk, rfl, rfl, rfl, by simpa [lenU] using lenS, by simpa using vals⟩)
  | none =>
    let S : HO := .frz { cls := .type "list", data := .seq us.toArray } (.lst (ns.map V.int))
    have yes : upd (fun _ => none) a S a = some S := upd_same
    have no : ∀ b, b ≠ a → upd (fun _ => none) a S b = none := fun b hb => by rw [upd_ne hb]
    refine answer_from (H := upd (fun _ => none) a S) g (fun b => ?_) (fun b y => ?_) isL kin (fun _ => lk) G.T.g G.T.b G.T.builtins G.T.nolimit (fun b u y => ?_) room hF hb ?_ fun e s' => calm _ z e s'
    · by_cases hb : b = a
      · subst hb
        exact .inr ⟨_, _, yes⟩
      · exact .inl (no b hb)
    · exact Classical.byContradiction fun hb => y (no b hb)
    · by_cases hb : b = a
      · subst hb
        have ey := Option.some.inj (yes.symm.trans y)
        subst ey
        exact ⟨at_, lenS, us, _, vals, at_⟩
      · rw [no b hb] at y
        cases y
    · exact want _ _ a ns len bits (.inl (.inr ⟨_, yes⟩))
end LB

set_option maxRecDepth 100000
set_option maxHeartbeats 2000000
namespace LB
/-! ### plans as trees -/
inductive Pk where
  | all | race | any | sequence
  deriving DecidableEq
inductive Kd where
  | plain (k : Pk) | pool (n : Int) | timeout (t : Int) | orelse | retry (r d : Int)
  deriving DecidableEq
/-- a node: its parts' indexes ps, in order -/
inductive Nd where
  | job (d : Int) (g : Bool) (v c : Int) (f : Option Int)
  | whole (k : Kd) (ps : List Int)
  deriving DecidableEq
inductive Pl where
  | job (d : Int) (g : Bool) (v c : Int) (f : Option Int)
  | node (k : Kd) (ps : List Pl)
def times : Kd → Int
  | .retry r _ => r + 1
  | _ => 1
def maxI (l : List Int) : Int := l.foldl max 0
mutual
def Pl.size : Pl → Nat
  | .job .. => 1
  | .node _ ps => Pl.sizeL ps + 1
def Pl.sizeL : List Pl → Nat
  | [] => 0
  | p :: r => p.size + Pl.sizeL r
end
mutual
def Pl.depth : Pl → Int
  | .job .. => 1
  | .node _ ps => 1 + maxI (Pl.depthL ps)
def Pl.depthL : List Pl → List Int
  | [] => []
  | p :: r => p.depth :: Pl.depthL r
end
mutual
def Pl.runs : Pl → Int
  | .job .. => 1
  | .node k ps => times k * (Pl.runsL ps).sum
def Pl.runsL : List Pl → List Int
  | [] => []
  | p :: r => p.runs :: Pl.runsL r
end
mutual
def Pl.clean : Pl → Int
  | .job _ _ _ c _ => c
  | .node _ ps => maxI (Pl.cleanL ps)
def Pl.cleanL : List Pl → List Int
  | [] => []
  | p :: r => p.clean :: Pl.cleanL r
end
theorem depthL_map : ∀ ps : List Pl, Pl.depthL ps = ps.map Pl.depth
  | [] => by rw [Pl.depthL]; rfl
  | p :: r => by rw [Pl.depthL, depthL_map r]; rfl
theorem runsL_map : ∀ ps : List Pl, Pl.runsL ps = ps.map Pl.runs
  | [] => by rw [Pl.runsL]; rfl
  | p :: r => by rw [Pl.runsL, runsL_map r]; rfl
theorem cleanL_map : ∀ ps : List Pl, Pl.cleanL ps = ps.map Pl.clean
  | [] => by rw [Pl.cleanL]; rfl
  | p :: r => by rw [Pl.cleanL, cleanL_map r]; rfl
theorem size_pos (p : Pl) : 0 < p.size := by
  cases p <;> simp [Pl.size]
/-- the indexes of the last nodes of the trees, the first tree's first node at o -/
def roots (o : Nat) : List Pl → List Int
  | [] => []
  | p :: r => ((o + p.size - 1 : Nat) : Int) :: roots (o + p.size) r
mutual
def Pl.flat (o : Nat) : Pl → List Nd
  | .job d g v c f => [.job d g v c f]
  | .node k ps => Pl.flatL o ps ++ [.whole k (roots o ps)]
def Pl.flatL (o : Nat) : List Pl → List Nd
  | [] => []
  | p :: r => p.flat o ++ Pl.flatL (o + p.size) r
end
mutual
theorem flat_length (o : Nat) : ∀ p : Pl, (p.flat o).length = p.size
  | .job .. => by simp [Pl.flat, Pl.size]
  | .node k ps => by
    have h := flatL_length o ps
    simp [Pl.flat, Pl.size, h]
theorem flatL_length (o : Nat) : ∀ ps : List Pl, (Pl.flatL o ps).length = Pl.sizeL ps
  | [] => by simp [Pl.flatL, Pl.sizeL]
  | p :: r => by
    have h := flat_length o p
    have h2 := flatL_length (o + p.size) r
    simp [Pl.flatL, Pl.sizeL, h, h2]
end
theorem sizeL_app : ∀ A B : List Pl, Pl.sizeL (A ++ B) = Pl.sizeL A + Pl.sizeL B
  | [], B => by simp [Pl.sizeL]
  | p :: r, B => by
    have h := sizeL_app r B
    simp only [List.cons_append, Pl.sizeL]
    omega
theorem flatL_app : ∀ (A B : List Pl) (o : Nat), Pl.flatL o (A ++ B) = Pl.flatL o A ++ Pl.flatL (o + Pl.sizeL A) B
  | [], B, o => by simp [Pl.flatL, Pl.sizeL]
  | p :: r, B, o => by
    have h := flatL_app r B (o + p.size)
    have e : o + p.size + Pl.sizeL r = o + (p.size + Pl.sizeL r) := by omega
    simp only [List.cons_append, Pl.flatL, Pl.sizeL, h, e, List.append_assoc]
theorem roots_app : ∀ (A B : List Pl) (o : Nat), roots o (A ++ B) = roots o A ++ roots (o + Pl.sizeL A) B
  | [], B, o => by simp [roots, Pl.sizeL]
  | p :: r, B, o => by
    have h := roots_app r B (o + p.size)
    have e : o + p.size + Pl.sizeL r = o + (p.size + Pl.sizeL r) := by omega
    simp only [List.cons_append, roots, Pl.sizeL, h, e]
theorem roots_length : ∀ (A : List Pl) (o : Nat), (roots o A).length = A.length
  | [], o => rfl
  | p :: r, o => by simp [roots, roots_length r]
theorem sizeL_one (p : Pl) : Pl.sizeL [p] = p.size := by simp [Pl.sizeL]
theorem flatL_one (o : Nat) (p : Pl) : Pl.flatL o [p] = p.flat o := by simp [Pl.flatL]
/-- a whole out of the last trees: one node more -/
theorem flatL_join (A B : List Pl) (k : Kd) : Pl.flatL 0 (A ++ [Pl.node k B]) = Pl.flatL 0 (A ++ B) ++ [Nd.whole k (roots (Pl.sizeL A) B)] := by
  rw [flatL_app, flatL_app, flatL_one, Pl.flat, Nat.zero_add, List.append_assoc]
theorem roots_join (A B : List Pl) (k : Kd) : roots 0 (A ++ [Pl.node k B]) = roots 0 A ++ [((Pl.sizeL (A ++ B) : Nat) : Int)] := by
  rw [roots_app, sizeL_app]
  show _ ++ [((0 + Pl.sizeL A + (Pl.node k B).size - 1 : Nat) : Int)] = _
  rw [show 0 + Pl.sizeL A + (Pl.node k B).size - 1 = Pl.sizeL A + Pl.sizeL B by rw [Pl.size]; omega]
/-! ### bounds -/
def KdOk : Kd → Nat → Prop
  | .plain _, n => 1 ≤ n ∧ n ≤ 6
  | .pool m, n => 1 ≤ n ∧ n ≤ 6 ∧ 1 ≤ m ∧ m ≤ 6
  | .timeout t, n => n = 1 ∧ 0 ≤ t ∧ t ≤ 1000
  | .orelse, n => n = 2
  | .retry r d, n => n = 1 ∧ 0 ≤ r ∧ r ≤ 5 ∧ 0 ≤ d ∧ d ≤ 100
def JobOk (d v c : Int) (f : Option Int) : Prop := (0 ≤ d ∧ d ≤ 1000) ∧ (0 ≤ v ∧ v ≤ 999) ∧ (0 ≤ c ∧ c ≤ 100) ∧ ∀ x, f = some x → 0 ≤ x ∧ x ≤ 999
inductive OkP : Pl → Prop where
  | job {d : Int} {g : Bool} {v c : Int} {f : Option Int} (h : JobOk d v c f) : OkP (.job d g v c f)
  | node {k : Kd} {ps : List Pl} (hk : KdOk k ps.length) (h : ∀ p ∈ ps, OkP p) : OkP (.node k ps)
/-! ### the greatest of some -/
theorem foldl_max_le {l : List Int} : ∀ {a m : Int}, a ≤ m → (∀ x ∈ l, x ≤ m) → l.foldl max a ≤ m := by
  induction l with
  | nil => intro a m h _; exact h
  | cons x r ih =>
    intro a m h hx
    exact ih (Int.max_le.mpr ⟨h, hx x (List.mem_cons_self ..)⟩) fun y hy => hx y (List.mem_cons_of_mem _ hy)
theorem le_foldl_max {l : List Int} : ∀ {a : Int}, a ≤ l.foldl max a ∧ ∀ x ∈ l, x ≤ l.foldl max a := by
  induction l with
  | nil => intro a; exact ⟨Int.le_refl _, by simp⟩
  | cons x r ih =>
    intro a
    obtain ⟨h1, h2⟩ := ih (a := max a x)
    refine ⟨Int.le_trans (Int.le_max_left ..) h1, fun y hy => ?_⟩
    rcases List.mem_cons.mp hy with e | hy
    · rw [e]; exact Int.le_trans (Int.le_max_right ..) h1
    · exact h2 y hy
theorem maxI_le {l : List Int} {m : Int} (h : 0 ≤ m) (hx : ∀ x ∈ l, x ≤ m) : maxI l ≤ m := foldl_max_le h hx
theorem le_maxI {l : List Int} {x : Int} (h : x ∈ l) : x ≤ maxI l := le_foldl_max.2 x h
theorem maxI_nn (l : List Int) : 0 ≤ maxI l := le_foldl_max.1
theorem maxI_mem {l : List Int} (hl : l ≠ []) (hn : ∀ x ∈ l, 0 ≤ x) : maxI l ∈ l := by
  have key : ∀ (l : List Int) (a : Int), l.foldl max a = a ∨ l.foldl max a ∈ l := by
    intro l
    induction l with
    | nil => intro a; exact .inl rfl
    | cons x r ih =>
      intro a
      rcases ih (max a x) with h | h
      · show r.foldl max (max a x) = a ∨ _
        rw [h]
        by_cases c : a ≤ x
        · exact .inr (by show r.foldl max (max a x) ∈ x :: r; rw [h, Int.max_eq_right c]; exact List.mem_cons_self ..)
        · exact .inl (Int.max_eq_left (by omega))
      · exact .inr (List.mem_cons_of_mem _ h)
  rcases key l 0 with h | h
  · cases l with
    | nil => exact absurd rfl hl
    | cons x r =>
      have h1 : x ≤ maxI (x :: r) := le_maxI (List.mem_cons_self ..)
      have h2 := hn x (List.mem_cons_self ..)
      have h3 : maxI (x :: r) = 0 := h
      have : x = 0 := by omega
      rw [h3, ← this]
      exact List.mem_cons_self ..
  · exact h
/-- the greatest, told by what it is -/
theorem maxI_eq {l : List Int} {m : Int} (hm : m ∈ l) (hx : ∀ x ∈ l, x ≤ m) (h0 : 0 ≤ m) : maxI l = m := Int.le_antisymm (maxI_le h0 hx) (le_maxI hm)
theorem maxI_app (l r : List Int) : maxI (l ++ r) = max (maxI l) (maxI r) := by
  apply Int.le_antisymm
  · refine maxI_le (Int.le_trans (maxI_nn l) (Int.le_max_left ..)) fun x hx => ?_
    rcases List.mem_append.mp hx with h | h
    · exact Int.le_trans (le_maxI h) (Int.le_max_left ..)
    · exact Int.le_trans (le_maxI h) (Int.le_max_right ..)
  · refine Int.max_le.mpr ⟨maxI_le (maxI_nn _) fun x hx => le_maxI (List.mem_append_left _ hx), maxI_le (maxI_nn _) fun x hx => le_maxI (List.mem_append_right _ hx)⟩
theorem maxI_one {x : Int} (h : 0 ≤ x) : maxI [x] = x := Int.max_eq_right h
/-! ### sizes by the nodes' row -/
structure Row where
  deep : Int
  runs : Int
  clean : Int
def rowN (rs : List Row) (i : Int) : Row := rs.getD i.toNat ⟨0, 0, 0⟩
def rowAt (rs : List Row) : Nd → Row
  | .job _ _ _ c _ => ⟨1, 1, c⟩
  | .whole k ps => ⟨1 + maxI (ps.map fun i => (rowN rs i).deep), times k * (ps.map fun i => (rowN rs i).runs).sum, maxI (ps.map fun i => (rowN rs i).clean)⟩
def rowsOn (rs : List Row) (ns : List Nd) : List Row := ns.foldl (fun rs n => rs ++ [rowAt rs n]) rs
def Pl.row (p : Pl) : Row := ⟨p.depth, p.runs, p.clean⟩
mutual
def Pl.rows : Pl → List Row
  | .job d g v c f => [Pl.row (.job d g v c f)]
  | .node k ps => Pl.rowsL ps ++ [Pl.row (.node k ps)]
def Pl.rowsL : List Pl → List Row
  | [] => []
  | p :: r => p.rows ++ Pl.rowsL r
end
mutual
theorem rows_length : ∀ p : Pl, p.rows.length = p.size
  | .job .. => by simp [Pl.rows, Pl.size]
  | .node k ps => by have h := rowsL_length ps; simp [Pl.rows, Pl.size, h]
theorem rowsL_length : ∀ ps : List Pl, (Pl.rowsL ps).length = Pl.sizeL ps
  | [] => by simp [Pl.rowsL, Pl.sizeL]
  | p :: r => by have h := rows_length p; have h2 := rowsL_length r; simp [Pl.rowsL, Pl.sizeL, h, h2]
end
theorem rows_last (p : Pl) : p.rows[p.size - 1]? = some p.row := by
  cases p with
  | job d g v c f => simp [Pl.rows, Pl.size]
  | node k ps =>
    have h := rowsL_length ps
    rw [Pl.rows, Pl.size, List.getElem?_append_right (by omega)]
    simp [h]
theorem roots_rows : ∀ (ps : List Pl) (rs : List Row) (o : Nat) (tl : List Row), rs.length = o → (roots o ps).map (rowN (rs ++ Pl.rowsL ps ++ tl)) = ps.map Pl.row
  | [], rs, o, tl, h => rfl
  | p :: r, rs, o, tl, h => by
    have hp := size_pos p
    have ih := roots_rows r (rs ++ p.rows) (o + p.size) tl (by rw [List.length_append, rows_length, h])
    have e1 : rs ++ Pl.rowsL (p :: r) ++ tl = rs ++ p.rows ++ Pl.rowsL r ++ tl := by rw [Pl.rowsL]; simp [List.append_assoc]
    rw [e1]
    show rowN _ _ :: (roots (o + p.size) r).map _ = _
    rw [ih]
    refine congrArg (· :: r.map Pl.row) ?_
    unfold rowN
    rw [Int.toNat_natCast, List.getD_eq_getElem?_getD]
    have e2 : (rs ++ p.rows ++ Pl.rowsL r ++ tl)[o + p.size - 1]? = some p.row := by
      rw [List.append_assoc, List.append_assoc, List.getElem?_append_right (by omega), List.getElem?_append_left (by rw [rows_length]; omega)]
      rw [show o + p.size - 1 - rs.length = p.size - 1 by omega]
      exact rows_last p
    rw [e2] <;> rfl
theorem rowsOn_app (rs : List Row) (a b : List Nd) : rowsOn rs (a ++ b) = rowsOn (rowsOn rs a) b := by
  unfold rowsOn
  rw [List.foldl_append]
mutual
theorem rowsOn_flat : ∀ (p : Pl) (rs : List Row) (o : Nat), rs.length = o → rowsOn rs (p.flat o) = rs ++ p.rows
  | .job d g v c f, rs, o, h => by simp [Pl.flat, Pl.rows, rowsOn, rowAt, Pl.row, Pl.depth, Pl.runs, Pl.clean]
  | .node k ps, rs, o, h => by
    have ih := rowsOn_flatL ps rs o h
    rw [Pl.flat, rowsOn_app, ih, Pl.rows, ← List.append_assoc]
    show rs ++ Pl.rowsL ps ++ [rowAt (rs ++ Pl.rowsL ps) (.whole k (roots o ps))] = _
    refine congrArg (fun x => rs ++ Pl.rowsL ps ++ [x]) ?_
    have e := roots_rows ps rs o [] h
    rw [List.append_nil] at e
    have m : ∀ f : Row → Int, (roots o ps).map (fun i => f (rowN (rs ++ Pl.rowsL ps) i)) = ps.map fun p => f p.row := fun f => by
      have e2 := congrArg (List.map f) e
      rw [List.map_map, List.map_map] at e2
      exact e2
    show (⟨_, _, _⟩ : Row) = ⟨_, _, _⟩
    rw [m Row.deep, m Row.runs, m Row.clean, Pl.depth, Pl.runs, Pl.clean, depthL_map, runsL_map, cleanL_map]
    all_goals rfl
theorem rowsOn_flatL : ∀ (ps : List Pl) (rs : List Row) (o : Nat), rs.length = o → rowsOn rs (Pl.flatL o ps) = rs ++ Pl.rowsL ps
  | [], rs, o, h => by simp [Pl.flatL, Pl.rowsL, rowsOn]
  | p :: r, rs, o, h => by
    have h1 := rowsOn_flat p rs o h
    have h2 := rowsOn_flatL r (rs ++ p.rows) (o + p.size) (by rw [List.length_append, rows_length, h])
    rw [Pl.flatL, rowsOn_app, h1, h2, Pl.rowsL, List.append_assoc]
end
/-! ### the jobs' cleanups -/
def Nd.clean? : Nd → Option Int
  | .job _ _ _ c _ => some c
  | .whole .. => none
def cleans (ns : List Nd) : List Int := ns.filterMap Nd.clean?
mutual
theorem clean_flat : ∀ (p : Pl) (o : Nat), OkP p → p.clean = maxI (cleans (p.flat o)) ∧ 0 ≤ p.clean
  | .job d g v c f, o, h => by
    cases h with
    | job h =>
      have h0 := h.2.2.1.1
      refine ⟨?_, by rw [Pl.clean]; exact h0⟩
      rw [Pl.clean, Pl.flat]
      show c = maxI [c]
      rw [maxI_one h0]
  | .node k ps, o, h => by
    cases h with
    | node hk h =>
      have e := clean_flatL ps o h
      refine ⟨?_, by rw [Pl.clean]; exact maxI_nn _⟩
      rw [Pl.clean, Pl.flat, e]
      show _ = maxI (List.filterMap Nd.clean? (Pl.flatL o ps ++ [Nd.whole k (roots o ps)]))
      rw [List.filterMap_append]
      show maxI (cleans (Pl.flatL o ps)) = maxI (cleans (Pl.flatL o ps) ++ [])
      rw [List.append_nil]
theorem clean_flatL : ∀ (ps : List Pl) (o : Nat), (∀ p ∈ ps, OkP p) → maxI (Pl.cleanL ps) = maxI (cleans (Pl.flatL o ps))
  | [], o, h => by simp [Pl.cleanL, Pl.flatL, cleans]
  | p :: r, o, h => by
    obtain ⟨h1, h0⟩ := clean_flat p o (h p (List.mem_cons_self ..))
    have h2 := clean_flatL r (o + p.size) fun q hq => h q (List.mem_cons_of_mem _ hq)
    rw [Pl.cleanL, Pl.flatL]
    show maxI ([p.clean] ++ Pl.cleanL r) = maxI (List.filterMap Nd.clean? (p.flat o ++ Pl.flatL (o + p.size) r))
    rw [maxI_app, maxI_one h0, List.filterMap_append, h1]
    show max _ (maxI (Pl.cleanL r)) = maxI (cleans (p.flat o) ++ cleans (Pl.flatL (o + p.size) r))
    rw [maxI_app, h2]
end
end LB

set_option maxRecDepth 100000
set_option maxHeartbeats 2000000
namespace LB
open PySem PySem.Spec PyProof.Rows L2
/-! ### data of a short repr -/
structure Td (d : PyData) (k m : Nat) : Prop where
  sh : d.showable = true
  nd : d.hasDict = false
  dp : d.depth ≤ k
  lv : d.leavesShort 13 = true
  bk : d.bulk ≤ m
structure TdA (ds : List PyData) (k m : Nat) : Prop where
  sh : PyData.showableAll ds = true
  nd : PyData.hasDictAll ds = false
  dp : PyData.depthAll ds ≤ k
  lv : PyData.leavesShortAll 13 ds = true
  bk : PyData.bulkAll ds ≤ m
theorem Td.short {d : PyData} {k m : Nat} (h : Td d k m) (hk : k ≤ 50) (hm : m ≤ 1048576) : Short d := .of h.sh h.nd (Nat.le_trans h.dp hk) h.lv (Nat.le_trans h.bk (Nat.le_trans hm (by decide)))
theorem Td.up {d : PyData} {k m k' m' : Nat} (h : Td d k m) (hk : k ≤ k') (hm : m ≤ m') : Td d k' m' := ⟨h.sh, h.nd, Nat.le_trans h.dp hk, h.lv, Nat.le_trans h.bk hm⟩
theorem TdA.up {d : List PyData} {k m k' m' : Nat} (h : TdA d k m) (hk : k ≤ k') (hm : m ≤ m') : TdA d k' m' := ⟨h.sh, h.nd, Nat.le_trans h.dp hk, h.lv, Nat.le_trans h.bk hm⟩
theorem Td.non : Td .none 0 0 := ⟨rfl, rfl, Nat.le_refl _, rfl, Nat.le_refl _⟩
theorem Td.int {i : Int} (h : Sm i) : Td (.int i) 0 0 := ⟨decide_eq_true (log_small h), rfl, Nat.le_refl _, decide_eq_true (leaf_small h), Nat.le_refl _⟩
theorem Td.str {x : Str} (h : (x.cps.toList.all fun c => decide (c < 16 ^ 8)) = true) : Td (.str x) 0 x.cps.size := ⟨rfl, rfl, Nat.le_refl _, h, Nat.le_refl _⟩
theorem TdA.nil {k : Nat} : TdA [] k 0 := ⟨rfl, rfl, Nat.zero_le _, rfl, Nat.le_refl _⟩
theorem TdA.cons {d : PyData} {ds : List PyData} {k m m' : Nat} (h : Td d k m) (r : TdA ds k m') : TdA (d :: ds) k (m + 1 + m') := by
  refine ⟨?_, ?_, ?_, ?_, ?_⟩
  · show (PyData.showable d && PyData.showableAll ds) = true
    rw [h.sh, r.sh] <;> rfl
  · show (PyData.hasDict d || PyData.hasDictAll ds) = false
    rw [h.nd, r.nd] <;> rfl
  · show max d.depth (PyData.depthAll ds) ≤ k
    have := h.dp
    have := r.dp
    omega
  · show (PyData.leavesShort 13 d && PyData.leavesShortAll 13 ds) = true
    rw [h.lv, r.lv] <;> rfl
  · show d.bulk + 1 + PyData.bulkAll ds ≤ _
    have := h.bk
    have := r.bk
    omega
theorem Td.tup {ds : List PyData} {k m : Nat} (h : TdA ds k m) : Td (.tuple ds) (k + 1) m := ⟨h.sh, h.nd, Nat.succ_le_succ h.dp, h.lv, h.bk⟩
theorem Td.lst {ds : List PyData} {k m : Nat} (h : TdA ds k m) : Td (.list ds) (k + 1) m := ⟨h.sh, h.nd, Nat.succ_le_succ h.dp, h.lv, h.bk⟩
theorem TdA.of {ds : List PyData} {k m : Nat} (h : ∀ d ∈ ds, Td d k m) : TdA ds k (ds.length * (m + 1)) := by
  induction ds with
  | nil => exact TdA.nil.up (Nat.le_refl _) (Nat.zero_le _)
  | cons d r ih =>
    refine (TdA.cons (h d (List.mem_cons_self ..)) (ih fun x hx => h x (List.mem_cons_of_mem _ hx))).up (Nat.le_refl _) ?_
    rw [List.length_cons, Nat.succ_mul]
    omega
theorem TdA.ints {ns : List Int} (h : ∀ n ∈ ns, Sm n) : TdA (ns.map PyData.int) 0 ns.length := by
  have := TdA.of (ds := ns.map PyData.int) (k := 0) (m := 0) fun d hd => by
    obtain ⟨n, hn, e⟩ := List.mem_map.mp hd
    rw [← e]
    exact .int (h n hn)
  rw [List.length_map, Nat.mul_one] at this
  exact this
theorem Td.bool {b : Bool} : Td (.bool b) 0 0 := ⟨rfl, rfl, Nat.le_refl _, (by cases b <;> decide), Nat.le_refl _⟩
end LB

set_option maxRecDepth 100000
set_option maxHeartbeats 2000000
namespace LB
open PySem PySem.Spec PyProof.Rows L2
/-! ### text * int -/
theorem op_mulS {X : Cx} : OpR X (binaryOp .Mult) (fun x y H Q => ∃ z n, x = .str z ∧ y = .int n ∧ MulOk z n ∧ Q (.str (Txt.mul z n)) H) := by
  intro pins s σ H x y v u Q I rx ry h
  obtain ⟨z, n, rfl, rfl, ok, q⟩ := h
  obtain ⟨t, rfl⟩ := rx
  obtain ⟨t', rfl⟩ := ry
  exact SB.mul ok fun t' k => ⟨.str _, H, I.tok k, ⟨t', rfl⟩, q⟩
/-! ### len of a text, told of no place -/
theorem call_lenS {X : Cx} : CallR X (.builtin "len") (fun xs H Q => ∃ z : Str, xs = [.str z] ∧ z.length ≤ sizeLine ∧ Q (.int z.length) H) := by
  intro pins s σ H xs us Q I r h
  obtain ⟨z, rfl, hz, q⟩ := h
  exact call_len pins s σ H _ us Q I r ⟨_, z.length, rfl, ⟨hz, rfl⟩, q⟩
end LB

set_option maxRecDepth 100000
set_option maxHeartbeats 4000000
namespace PySem.W
open PySem
section
variable {prog : Program} {w : World} {A : Around} {E : Value → Shared → Prop} {s : Shared}
/-- max(a, b), the two compared where H stands -/
theorem lb_max_two {a b : Value} {Q : Value → Shared → Prop}
    (h : wpAny (model prog w) A.in1 (pyIter (.ref s.heap.objs.size)) (fun it s₂ => ∃ I fp wr G n P St H bt, it = .ref I ∧ WalksS prog w A.in1 I fp wr G n P St ∧ St 0 s₂ ∧ (∀ b ∈ fp, b < s₂.heap.objs.size) ∧ 0 < n ∧
      (∀ b o, H.get? b = some o → b ∉ wr) ∧ (∀ b o, H.get? b = some o → s₂.heap.get? b = some o) ∧ CmpIn prog w A.in1 .Gt H P bt ∧ ∀ v s', P (argBest bt (n - 1)) v → Moved wr G s₂ s' → Q v s') E
      { s with heap := s.heap.push { cls := .type "tuple", data := .seq #[a, b] } }) :
    wpAny (model prog w) A (call (.builtin "max") [a, b]) Q E s := by
  have hname : (toString "max" ++ toString ".loop" : String) = "max.loop" := by decide
  refine call_function_tree F.kind_max F.plain_max F.entry_max (F.args_max2 _ _) ?_
  show wpAny _ A.in1 (Builtin.Builtins.bindParams "max" ["key", "default"] 0 ⟨[], []⟩ >>= _) _ _ s
  refine wpAny_bind (wpAny_of_eq (show Builtin.Builtins.bindParams "max" ["key", "default"] 0 ⟨[], []⟩ = pure [none, none] from rfl) ?_)
  show wpAny _ A.in1 (newTuple [a, b] >>= _) _ _ s
  refine wpAny_bind (wpAny_newObj_type ?_)
  refine wpAny_bind (wpAny_mono h (fun it s₂ h₂ => ?_) fun _ _ e => e)
  obtain ⟨I, fp, wr, G, n, P, St, H, bt, rfl, W, hst, hfp, hn, hw, hkeep, hcmp, hQ⟩ := h₂
  refine wpAny_bind (wpAny_newObj_type ?_)
  have hSf : s₂.heap.objs.size ∉ fp := fun hm => Nat.lt_irrefl _ (hfp _ hm)
  rw [hname]
  refine wpAny_pure ⟨plainId_quiet F.plain_max_loop _, codeAny_max_loop_firstH W H hw bt hcmp s₂.heap.objs.size hSf (fresh_in hkeep) _ hn (fun b o e => Heap.get?_push_of_some _ (hkeep b o e)) (W.frame 0 s₂ _ s₂.toks hst (Nat.le_refl _) fun b _ o e => Heap.get?_push_of_some _ e) (Heap.get?_push_size _ rfl) fun v s' hP hm => ?_⟩
  exact hQ v s' hP (Moved.drop_new (tk := s₂.toks) hm (Nat.le_refl _))
theorem lb_max_data {a b : Value} {x y : PyData} {as bs : List Addr} {Q : Value → Shared → Prop} (hh : A.handled = none) (ra : Reads s.heap a x as) (rb : Reads s.heap b y bs) (al : AlikeAll [x, y]) (hu : A.units + 1 + PyData.depthAll [x, y] < cLine)
    (h : ∀ h' tk, (∀ b o, s.heap.get? b = some o → h'.get? b = some o) → Q (if dataLt x y = true then b else a) { s with heap := h', toks := tk }) : wpAny (model prog w) A (call (.builtin "max") [a, b]) Q E s := by
  have k1 : ∀ c o, s.heap.get? c = some o → (s.heap.push { cls := .type "tuple", data := .seq #[a, b] }).get? c = some o := fun c o e => Heap.get?_push_of_some _ e
  have hr : ReadsAll (s.heap.push { cls := .type "tuple", data := .seq #[a, b] }) (#[a, b] : Array Value).toList [x, y] (as ++ (bs ++ [])) := .cons (reads_keeps k1 ra) (.cons (reads_keeps k1 rb) .nil)
  have hl : (s.heap.push { cls := .type "tuple", data := .seq #[a, b] }).IsTuple s.heap.objs.size #[a, b] := ⟨_, Heap.get?_push_size _ rfl, rfl, _, rfl⟩
  refine lb_max_two (iter_tupleW (A := A.in1) (s := { s with heap := s.heap.push { cls := .type "tuple", data := .seq #[a, b] } }) hh hl fun s₂ e W st hfp hw hk => ?_)
  refine ⟨_, _, _, _, _, _, _, _, _, rfl, W, st, hfp, (by show 0 < 2; decide), hw, hk, cmpIn_gt (A := A.in1) (s := { s with heap := s.heap.push { cls := .type "tuple", data := .seq #[a, b] } }) hr al (by show A.units + 1 + _ < _; exact hu), fun v s' hP m => ?_⟩
  obtain ⟨h', tk, rfl, hk'⟩ := moved_old e rfl m
  have e1 : argBest (fun i j => dataLt (([x, y] : List PyData).getD j .none) (([x, y] : List PyData).getD i .none)) 1 = if dataLt x y = true then 1 else 0 := rfl
  have hP : (#[a, b] : Array Value)[argBest (fun i j => dataLt (([x, y] : List PyData).getD j .none) (([x, y] : List PyData).getD i .none)) 1]? = some v := hP
  rw [e1] at hP
  have q := h h' tk fun c o z => hk' c o (k1 c o z)
  by_cases c : dataLt x y = true
  · rw [if_pos c] at hP q
    cases hP
    exact q
  · rw [if_neg c] at hP q
    cases hP
    exact q
end
end PySem.W
namespace LB
open PySem PySem.Spec PyProof.Rows L2
/-! ### orders of data, the greater one of two -/
section
variable {X : Cx}
def rGtD (K : PySem.W.Frag) : R2 := fun x y H Q => ∃ d e, Dp K H x d ∧ Dp K H y e ∧ PySem.W.alike d e = true ∧ d ≠ .none ∧ d.depth ≤ 50 ∧ Q (.bl (PySem.W.dataLt e d)) H
theorem op_gtD (hu : X.A.units + 64 < cLine) : OpR X (compareOp .Gt) (rGtD X.K) := by
  intro pins s σ H x y v u Q I rx ry h
  obtain ⟨d, e, hd, he, al, nn, dp, q⟩ := h
  obtain ⟨as, r1⟩ := Dp.reads I d x v hd rx
  obtain ⟨bs, r2⟩ := Dp.reads I e y u he ry
  exact PySem.W.rcGt_alike _ _ X.A s v u _ _ r1 r2 al nn (by have := Nat.min_le_left d.depth e.depth; omega) X.prog X.w X.xe _ ⟨.bl _, H, I, rfl, q⟩
def rLtD (K : PySem.W.Frag) : R2 := fun x y H Q => ∃ d e, Dp K H x d ∧ Dp K H y e ∧ PySem.W.alike d e = true ∧ d ≠ .none ∧ d.depth ≤ 50 ∧ Q (.bl (PySem.W.dataLt d e)) H
theorem op_ltD (hu : X.A.units + 64 < cLine) : OpR X (compareOp .Lt) (rLtD X.K) := by
  intro pins s σ H x y v u Q I rx ry h
  obtain ⟨d, e, hd, he, al, nn, dp, q⟩ := h
  obtain ⟨as, r1⟩ := Dp.reads I d x v hd rx
  obtain ⟨bs, r2⟩ := Dp.reads I e y u he ry
  exact PySem.W.rcLt_alike _ _ X.A s v u _ _ r1 r2 al nn (by have := Nat.min_le_left d.depth e.depth; omega) X.prog X.w X.xe _ ⟨.bl _, H, I, rfl, q⟩
def rMax2D (K : PySem.W.Frag) : List V → Hp → VK → Prop := fun xs H Q => ∃ x y d e, xs = [x, y] ∧ Dp K H x d ∧ Dp K H y e ∧ PySem.W.AlikeAll [d, e] ∧ PyData.depthAll [d, e] ≤ 50 ∧ Q (if PySem.W.dataLt d e = true then y else x) H
theorem call_max2D (hc : X.calm = true) (hu : X.A.units + 64 < cLine) : CallR X (.builtin "max") (rMax2D X.K) := by
  intro pins s σ H xs us Q I r h
  obtain ⟨x, y, d, e, rfl, hd, he, al, dp, q⟩ := h
  obtain ⟨u, v, rfl, ru, rv⟩ := vals2 r
  obtain ⟨as, r1⟩ := Dp.reads I d x u hd ru
  obtain ⟨bs, r2⟩ := Dp.reads I e y v he rv
  refine PySem.W.lb_max_data (I.ok.hd hc) r1 r2 al (by omega) fun h' tk k => ?_
  by_cases c : PySem.W.dataLt d e = true
  · rw [if_pos c] at q ⊢
    exact ⟨_, H, I.kept k, rv, q⟩
  · rw [if_neg c] at q ⊢
    exact ⟨_, H, I.kept k, ru, q⟩
end
end LB

set_option maxRecDepth 100000
set_option maxHeartbeats 4000000
namespace LB
open PySem PySem.Spec PyProof.Rows L2 LamX
/-! ### min(xs, key=lambda t: ..) of a list of ours -/
/-- a def whose code object is known, by its body -/
theorem ok_code {P : Program} {w : World} {K : PySem.W.Frag} {mg : Str → Option Value} {base : Heap} {x q : Str} {st : Stmt} {f c : Addr} {oc : Value} {od an : Option Addr} {osl : Array (Option Value)} {kV doc pm ct : Value} {N ps : List Str} {k : Nat} {sp : Sp}
    (lk : K.lookup f = some ⟨oc, od, .func (PySem.W.fnOf x q (defArgs st) (defBody st) (defScope st) .none kV doc pm an (.ref c) ct), osl⟩) (hc : PySem.W.codeIn K (.ref c) q = true) (S : FnScope N ps (defScope st)) (len : ∀ vs H Q E, sp vs H Q E → vs.length = ps.length)
    (hbody : ∀ (A : Around) (outer : List Env) (s : Shared) (H : Hp) (vs : List V) (Q : VK) (E : XK), Room k (A.deeper (envOfC q (defScope st) s.heap.objs.size f (.ref c))) → sp vs H Q E →
      ∃ t, PSs (cxOf CX0 P w K mg base N q (defScope st) f (.ref c) A outer s H E).nox (defBody st) t ∧ t { nx := fun _ H' => Q .non H', rt := Q } (start N vs) H) :
    FnOk P w K mg base CX0 (k + 1) f (PySem.W.fnOf x q (defArgs st) (defBody st) (defScope st) .none kV doc pm an (.ref c) ct) ps sp :=
  fn_of lk hc S len fun A outer s H vs Q E hr hsp => let ⟨t, h, z⟩ := hbody A outer s H vs Q E hr hsp; ⟨t, h.nox, z⟩
section
variable {X : Cx} {pins : List (Addr × Obj)} {σ : L2.St} {H : Hp} {s : Shared}
/-- the lambda at f, called on x from where I stands -/
theorem lam_call {f c' : Addr} {q t : Str} {params : Arguments} {body : Expr} {scope : Scope} {pm ctv v : Value} {x y : V} {k : Nat} {tb : TE} {Q : Value → Shared → Prop} {E : Value → Shared → Prop}
    (I : Inv X pins σ H s) (Sc : FnScope [t] [t] scope) (hf : s.heap.get? f = some (PySem.W.kla_obj "<lambda>" q params body scope [] pm c' ctv)) (hc : H c' = some (CodeO c' q))
    (hbind : bindArgs (PySem.W.kla_fn "<lambda>" q params body scope [] pm (.ref c') ctv) ⟨[v], []⟩ = pure [(t, v)]) (hr : Room (k + 1) X.A.in1) (rx : RelV x v)
    (hbody : ∀ (A : Around) (outer : List Env) (s : Shared) (H : Hp) (E : XK) (f : Addr) (cd : Value), Room k (A.deeper (envOfC q scope s.heap.objs.size f cd)) → PE (cxOf CX0 X.prog X.w X.K X.mg X.base [t] q scope f cd A outer s H E) body tb)
    (ht : tb [some x] H (fun r H' => r = y ∧ H' = H))
    (h : ∀ u s', Inv X pins σ H s' → (∀ b o, s.heap.get? b = some o → H b = none → b ∉ frs X.stack → s'.heap.get? b = some o) → RelV y u → Q u s') :
    wpAny (model X.prog X.w) X.A.in1 (call (.ref f) [v]) Q E s := by
  obtain ⟨⟨oc, vs, tk, hoc, hdc, hvc⟩, _, _⟩ := I.hok c' _ hc
  have lim := I.nolimit
  have kinds : ∀ z ∈ [(t, v)], scope.names.lookup z.1 = some .local ∨ (scope.names.lookup z.1 = some .cell ∧ ((cellsFrom (s.heap.objs.size + 1) scope.names []).lookup z.1).isSome = true) := by
    intro z hz
    have ez := List.mem_singleton.mp hz
    subst ez
    cases Sc.par t (List.mem_singleton.mpr rfl) with
    | inl z => exact .inl z
    | inr z => exact .inr ⟨z, PySem.W.cellsFrom_some _ _ _ (.inl z)⟩
  have rc : codeAny (model X.prog X.w) X.A.in1 (.call (.ref f) ⟨[v], []⟩) (CR CX0 X.stack X.prog X.w H s (fun r H' => r = y ∧ H' = H) C8.E0) s := by
    refine PySem.W.kla_callFunE hr.depth hf rfl Sc.co Sc.gen rfl ⟨c', oc, vs, tk, rfl, hoc, hdc, hvc⟩ ?_
    rw [hbind]
    refine wpAny_pure (wpAny_newFunctionEnv_cells Sc.kind kinds ?_)
    intro env he s1 into
    subst he
    refine ⟨lim.keeps into.toInCall.keep, ?_⟩
    have J := inv_start (CX := CX0) (E := C8.E0) (f := f) (cd := .ref c') (qual := q) Sc hr.hd (I.env0.in1) (vs := [x]) (us := [v]) rfl (.cons rx .nil) into
    refine PySem.W.kla_codeExpr (wpAny_mono ((hbody _ _ s H C8.E0 f (.ref c') (hr.deeper _)).run [] _ _ H (fun r H' => r = y ∧ H' = H) J ht) (fun u s' hq => ?_) fun e s' hq => hq)
    obtain ⟨r, H', J', rv, z⟩ := hq
    exact ⟨r, H', J'.os, J'.bare, J'.base, J'.hok, rv, z⟩
  refine wpAny_call (codeAny_mono rc fun r s' hq => ?_)
  match r, hq with
  | .error e, hq => exact (show False from hq).elim
  | .ok .next, hq => exact False.elim hq
  | .ok .brk, hq => exact False.elim hq
  | .ok .cont, hq => exact False.elim hq
  | .ok (.ret u), hq =>
    have un := hq
    obtain ⟨_, _, _, _, un, _, _, _, rfl⟩ := un
    obtain ⟨r, H', I', rv, rfl, rfl⟩ := I.after hq
    exact h u s' I' (fun b o e n nf => un.keep b o e n nf List.not_mem_nil) rv
theorem inv_moved {ch : List Addr} {s' : Shared} (I : Inv X pins σ H s) (m : Moved ch (fun a b => b = a) s s') (hf : ∀ b ∈ ch, FpOk X pins H b) : Inv X pins σ H s' := by
  obtain ⟨h', g', d', t', o'⟩ := s'
  have eg : g' = s.gens := m.gens
  have ed : d' = s.drawn := m.drawn
  have eo : o' = s.os := m.os
  subst eg ed eo
  exact I.turnedL (fun b o nb e => m.heap b o nb e) hf
/-- the place of the first least one -/
def bestOf (ds : List PyData) : Nat → Nat := argBest fun i j => PySem.W.dataLt (ds.getD i .none) (ds.getD j .none)
theorem bestOf_le (ds : List PyData) : ∀ n, bestOf ds n ≤ n
  | 0 => Nat.le_refl _
  | n + 1 => by
    show (if _ then n + 1 else argBest _ n) ≤ n + 1
    split
    · exact Nat.le_refl _
    · exact Nat.le_succ_of_le (bestOf_le ds n)
theorem min_lam {a f c' : Addr} {od : Obj} {q t : Str} {params : Arguments} {body : Expr} {scope : Scope} {pm ctv : Value} {k : Nat} {tb : TE} {xs ks : List V} {ds : List PyData} {Q : Value → Shared → Prop} {E : Value → Shared → Prop}
    (I : Inv X pins σ H s) (hcalm : X.calm = true) (ha : H a = some (.frz od (.lst xs))) (Sc : FnScope [t] [t] scope) (hf : s.heap.get? f = some (PySem.W.kla_obj "<lambda>" q params body scope [] pm c' ctv)) (hn : H f = none) (hfr : f ∉ frs X.stack) (hcc : H c' = some (CodeO c' q))
    (hbind : ∀ v, bindArgs (PySem.W.kla_fn "<lambda>" q params body scope [] pm (.ref c') ctv) ⟨[v], []⟩ = pure [(t, v)]) (hr : Room (k + 2) X.A)
    (hbody : ∀ (A : Around) (outer : List Env) (s : Shared) (H : Hp) (E : XK) (f : Addr) (cd : Value), Room k (A.deeper (envOfC q scope s.heap.objs.size f cd)) → PE (cxOf CX0 X.prog X.w X.K X.mg X.base [t] q scope f cd A outer s H E) body tb)
    (ht : ∀ (i : Nat) (x y : V), xs[i]? = some x → ks[i]? = some y → tb [some x] H (fun r H' => r = y ∧ H' = H)) (hl : ks.length = xs.length) (hd : ∀ (i : Nat) (y : V) (d : PyData), ks[i]? = some y → ds[i]? = some d → Dp X.K H y d) (hdl : ds.length = xs.length)
    (al : ∀ d ∈ ds, ∀ e ∈ ds, PySem.W.alike d e = true) (nn : ∀ d ∈ ds, d ≠ .none) (dp : ∀ d ∈ ds, d.depth ≤ 50) (pos : 0 < xs.length)
    (h : ∀ x v s', xs[bestOf ds (xs.length - 1)]? = some x → RelV x v → Inv X pins σ H s' → Q v s') :
    wpAny (model X.prog X.w) X.A (call (.builtin "min") [.ref a] [(Str.ofString "key", .ref f)]) Q E s := by
  obtain ⟨its, rv, li, _⟩ := I.list (show SqL X.K H a xs from .inl (.inr ⟨od, ha⟩))
  have len : xs.length = its.length := rv.length
  have sz : its.toArray.size = xs.length := by simp [len]
  have nofr : ∀ b, s.heap.objs.size ≤ b → b ∉ frs X.stack := fun b hb z => by
    rcases List.mem_cons.mp (I.stkSub _ z) with e | e
    · have h1 := I.lt
      rw [← e] at h1
      exact Nat.lt_irrefl _ (Nat.lt_of_lt_of_le h1 hb)
    · exact I.nofs hb e
  have flt : f < s.heap.objs.size := Heap.lt_size hf
  refine call_min_walkK (PySem.W.iter_listW (A := X.A.in1) (I.ok.hd hcalm) li.isList fun s₂ e W st hfp hw hk => ?_)
  subst e
  have szS : s.heap.objs.size ≤ (s.heap.push { cls := .type "list_iterator", data := .fields #[.ref a, .int 0 0] }).objs.size := by rw [Heap.size_push]; exact Nat.le_succ _
  have I2 : Inv X pins σ H { s with heap := s.heap.push { cls := .type "list_iterator", data := .fields #[.ref a, .int 0 0] } } := I.kept (t' := s.toks) hk
  have fps : ∀ b ∈ [(s.heap.push { cls := .type "list_iterator", data := .fields #[.ref a, .int 0 0] }).objs.size, s.heap.objs.size], FpOk X pins H b := fun b hb => by
    have le : s.heap.objs.size ≤ b := by
      rcases List.mem_cons.mp hb with e | hb
      · rw [e]; exact szS
      · rw [List.mem_singleton.mp hb]; exact Nat.le_refl _
    exact I.fpOk le (I.hok.fresh le)
  have item : ∀ (i : Nat) (v : Value), its.toArray[i]? = some v → ∃ x y, xs[i]? = some x ∧ ks[i]? = some y ∧ RelV x v := fun i v hv => by
    have hv : its[i]? = some v := by simpa using hv
    have hi := (List.getElem?_eq_some_iff.mp hv).1
    obtain ⟨u, hu, ru⟩ := rv.get (List.getElem?_eq_getElem (show i < xs.length by omega))
    rw [hv] at hu
    cases hu
    exact ⟨_, _, List.getElem?_eq_getElem (by omega), List.getElem?_eq_getElem (show i < ks.length by omega), ru⟩
  refine ⟨_, _, _, _, _, _, _, (fun z => Inv X pins σ H z ∧ z.heap.get? f = some (PySem.W.kla_obj "<lambda>" q params body scope [] pm c' ctv)), (fun i u z => ∃ y, ks[i]? = some y ∧ RelV y u), (fun i j => PySem.W.dataLt (ds.getD i .none) (ds.getD j .none)), rfl, W, st, hfp, ?_, ?_, ?_, ?_⟩
  · rw [sz]; exact pos
  · constructor
    · rintro z z' ⟨J, Jf⟩ m
      refine ⟨inv_moved J m fps, m.heap f _ (fun z => ?_) Jf⟩
      rcases List.mem_cons.mp z with e | z
      · rw [e] at flt; exact Nat.lt_irrefl _ (Nat.lt_of_lt_of_le flt szS)
      · rw [List.mem_singleton.mp z] at flt; exact Nat.lt_irrefl _ flt
    · exact fun i u z z' h _ => h
    · rintro i v z o Q' E' hi hP ⟨J, Jf⟩ ⟨it, isl⟩ hS hQ
      obtain ⟨x, y, hx, hy, rx⟩ := item i v hP
      refine lam_call J Sc Jf hcc (hbind v) hr.in1 rx hbody (ht i x y hx hy) fun u z' J' kp ru => ?_
      refine hQ u z' ⟨J', kp f _ Jf hn hfr⟩ ⟨?_, ?_⟩ (kp _ o hS (I.hok.fresh szS) (nofr _ szS)) ⟨y, hy, ru⟩ fun j k' h => h
      · obtain ⟨oi, e1, r⟩ := it
        exact ⟨oi, kp _ oi e1 (I.hok.fresh (Nat.le_refl _)) (nofr _ (Nat.le_refl _)), r⟩
      · obtain ⟨ol, e1, r⟩ := isl
        have e2 := (J.hok a _ ha).1
        have e3 := (J'.hok a _ ha).1
        rw [e1] at e2
        cases e2
        exact ⟨_, e3, r⟩
    · rintro i j ki kj z Q' E' ⟨J, _⟩ ⟨yi, hyi, ri⟩ ⟨yj, hyj, rj⟩ hQ
      have li := (List.getElem?_eq_some_iff.mp hyi).1
      have lj := (List.getElem?_eq_some_iff.mp hyj).1
      have gi : ds[i]? = some (ds.getD i .none) := by rw [List.getD_eq_getElem?_getD, List.getElem?_eq_getElem (show i < ds.length by omega)]; rfl
      have gj : ds[j]? = some (ds.getD j .none) := by rw [List.getD_eq_getElem?_getD, List.getElem?_eq_getElem (show j < ds.length by omega)]; rfl
      obtain ⟨as, r1⟩ := Dp.reads J _ yi ki (hd i yi _ hyi gi) ri
      obtain ⟨bs, r2⟩ := Dp.reads J _ yj kj (hd j yj _ hyj gj) rj
      have mi := List.mem_of_getElem? gi
      have mj := List.mem_of_getElem? gj
      refine PySem.W.rcLt_alike _ _ X.A.in1 z ki kj _ _ r1 r2 (al _ mi _ mj) (nn _ mi) ?_ X.prog X.w E' _ hQ
      have := Nat.min_le_left (ds.getD i .none).depth (ds.getD j .none).depth
      have := dp _ mi
      have := hr.un
      show X.A.units + 1 + _ < _
      omega
  · exact ⟨I2, hk _ _ hf⟩
  · rintro v z' hP ⟨J, _⟩
    obtain ⟨x, y, hx, _, rx⟩ := item _ v hP
    rw [sz] at hx
    exact h x v z' hx rx J
/-- what stands behind min's list: v at H1 -/
def kMin (T : List (Addr × Str)) (K : PySem.W.Frag) (tb : TE) (Q : VK) (v : V) (H1 : Hp) : Prop := Tabs T H1 ∧ ∃ (a : Addr) (xs ks : List V) (ds : List PyData), v = .ref a ∧ H1 a = some (.lst xs) ∧ 0 < xs.length ∧ ks.length = xs.length ∧ ds.length = xs.length ∧
  (∀ d ∈ ds, ∀ e ∈ ds, PySem.W.alike d e = true) ∧ (∀ d ∈ ds, d ≠ .none) ∧ (∀ d ∈ ds, d.depth ≤ 50) ∧ ∀ H2, ExtN H1 H2 → Tabs T H2 →
    (∀ (od : Obj) (i : Nat) (y : V) (d : PyData), ks[i]? = some y → ds[i]? = some d → Dp K (upd H2 a (.frz od (.lst xs))) y d) ∧
    (∀ (od : Obj) (i : Nat) (x y : V), xs[i]? = some x → ks[i]? = some y → tb [some x] (upd H2 a (.frz od (.lst xs))) (fun r H' => r = y ∧ H' = upd H2 a (.frz od (.lst xs)))) ∧
    ∀ x, xs[bestOf ds (xs.length - 1)]? = some x → Q x H2
def tMinK (T : List (Addr × Str)) (K : PySem.W.Frag) (tb te : TE) : TE := fun σ H Q => te σ H (kMin T K tb Q)
def oneV (R : V → Hp → Prop) : List V → Hp → Prop
  | [v], H => R v H
  | _, _ => False
theorem oneV_of {R : V → Hp → Prop} : ∀ {vs : List V} {H : Hp}, oneV R vs H → ∃ v, vs = [v] ∧ R v H
  | [v], H, h => ⟨v, rfl, h⟩
end
/-- min(e, key=lambda t: body) -/
theorem pe_minK {X : Cx} {T : List (Addr × Str)} {c P : Addr} {e : Expr} {t : Str} {params : Arguments} {body : Expr} {scope : Scope} {k : Nat} {tb te : TE} {p lpos kpos pos : Pos} (TB : TabB X.base X.mg c P) (hcode : X.env.code = .ref c)
    (hmT : (P, X.env.qual ++ "<lambda>") ∈ T) (hu : ∀ p ∈ T, p.1 = P → p.2 = X.env.qual ++ "<lambda>") (hr : Room (k + 2) X.A) (hcalm : X.calm = true) (Sc : FnScope [t] [t] scope) (hg : Gl X "min") (hm : X.mg "min" = none) (he : PE X e te)
    (hbody : ∀ (A : Around) (outer : List Env) (s : Shared) (H : Hp) (E : XK) (f : Addr) (cd : Value), Room k (A.deeper (envOfC (X.env.qual ++ "<lambda>") scope s.heap.objs.size f cd)) → PE (cxOf CX0 X.prog X.w X.K X.mg X.base [t] (X.env.qual ++ "<lambda>") scope f cd A outer s H E) body tb)
    (hdef : defaultsOf params X.env = ([], []) := by rfl) (hcl : cloFrom X.env.cells scope.names [] = [] := by rfl)
    (hbind : ∀ (q : Str) (pm cv ctv v : Value), bindArgs (PySem.W.kla_fn "<lambda>" q params body scope [] pm cv ctv) ⟨[v], []⟩ = pure [(t, v)] := by intros; rfl)
    (hs : starEach [e] X.env = (false, eval e X.env) :: starEach [] X.env := by rfl) (hb : backTo pos (starEach [e] X.env) = (false, eval e X.env) :: backTo pos (starEach [] X.env) := by rfl) (hpl : (backTo pos (starEach [e] X.env)).any (·.1) = false := by rfl) :
    PE X (.Call (.Name "min" p) [e] [⟨some "key", .Lambda params body scope lpos, kpos⟩] pos) (tMinK T X.K tb te) := by
  refine ⟨fun pins s σ H Q I h => ?_⟩
  refine wpAny_Call_Name_kw (ld_blt I hg hm PyProof.Rows.boot_min ?_)
  refine PyProof.Rows.callWith_kw (thn ((pa_cons he pa_nil hs).run pos pins s σ H (oneV (kMin T X.K tb Q)) I h) fun us s1 ⟨vs, H1, I1, r1, q1⟩ => ?_) hb hpl rfl rfl
  obtain ⟨v, rfl, q1⟩ := oneV_of q1
  obtain ⟨hT, a, xs, ks, ds, rfl, ha, h0, hl, hdl, al, nn, dp, q⟩ := q1
  obtain rfl := Vals.ref1 r1
  show wpAny _ _ (evalAll [do let v ← eval (.Lambda params body scope lpos) X.env; standAt pos; pure v]) _ _ s1
  refine wpAny_evalAll_cons (wpAny_bind (lam_make2 I1 TB hcode hmT hu hT hdef (fun y hy e => absurd e (Sc.nofree y hy)) fun f c' pm ctv H2 s2 I2 eN T2 hf hfn hfr hco => wpAny_bind (wpAny_standAt (wpAny_pure ?_))))
  refine wpAny_evalAll_nil ?_
  rw [hcl] at hf
  show wpAny _ _ (call (.builtin "min") [.ref a] [(Str.ofString "key", .ref f)]) _ _ s2
  obtain ⟨q1, q2, q3⟩ := q H2 eN T2
  have ha2 : H2 a = some (.lst xs) := eN a _ ha (fun ps z => by cases z)
  obtain ⟨od, I3⟩ := I2.lock ha2 trivial
  have fa : f ≠ a := fun z => by rw [z, ha2] at hfn; cases hfn
  have ca : c' ≠ a := fun z => by
    rw [z, ha2] at hco
    exact absurd (Option.some.inj hco) (by unfold CodeO; intro z; cases z)
  refine min_lam I3 hcalm upd_same Sc hf (by rw [upd_ne fa]; exact hfn) hfr (by rw [upd_ne ca]; exact hco) (fun v => hbind _ _ _ _ v) hr hbody (q2 od) hl (q1 od) hdl al nn dp h0 fun x v s3 hx rx I4 => ?_
  have I5 := I4.unlock upd_same (I2.nofrz ha2 trivial)
  have eH : upd (upd H2 a (.frz od (.lst xs))) a (.lst xs) = H2 := by
    funext b
    by_cases eb : b = a
    · rw [eb, upd_same, ha2]
    · rw [upd_ne eb, upd_ne eb]
  rw [eH] at I5
  exact ⟨x, H2, I5, rx, q3 x hx⟩
end LB

set_option maxRecDepth 100000
set_option maxHeartbeats 2000000
namespace LB
open PySem PySem.Spec PyProof.Rows L2 LamX
/-! ### the end of a law's row: defs told of free places alone, and one def that makes a lambda (its code object at c, its table at T) -/
section
variable {P : Program} {w : World} {K : PySem.W.Frag} {mg mb : Str → Option Value} {CX : CXT} {k : Nat} {fa a c T : Addr} {fd : FuncData} {x : Str} {sp : Sp} {z : Shared} {us : List Value} {ns : List Int}
theorem answer_fromT {H : Hp} (g : z.gens = #[]) (hT : z.heap.get? T = some { cls := .none, data := .fields #[] }) (hH : H T = some (.tbl #[])) (only : ∀ b, b ≠ T → H b = none ∨ ∃ o xs, H b = some (.frz o (.lst xs))) (alone : ∀ b, H b ≠ none → b = a ∨ b = T)
    (isL : ∃ d n, (z.heap.get? a).map Obj.data = some (.seq d n)) (kin : K.In z.heap) (apart : H a ≠ none → K.lookup a = none) (nT : K.lookup T = none) (hC : PySem.W.CodeHd z.heap c T)
    (ng : z.heap.Ns mainGlobals mg) (nb : z.heap.Ns builtinsNs mb) (boot : ∀ y : Str, y ≠ "__name__" → mb y = bootBuiltins y) (nolim : z.heap.NoLimit)
    (bm : ∃ (bm : Addr) (ob : Obj), mg "__builtins__" = some (.ref bm) ∧ bm ≠ builtinsNs ∧ z.heap.get? bm = some ob ∧ ob.cls = .type "module" ∧ ob.dict = some builtinsNs ∧ ob.data = .plain) (hok : HOk P w H z.heap) (room : Room k callerA)
    (F : ∀ b : Heap, K.In b → b.Ns mainGlobals mg → TabB b mg c T → FnG P w K mg b CX k fa fd [x] sp) (binds : ∀ (s : Shared) (u : Value), BindsTo s fd ⟨[u], []⟩ [(x, u)])
    (want : sp [.ref a] H (fun v _ => v = .bl true) fun _ _ _ => False) (calm : ∀ e s', CX [] H z (fun _ _ _ => False) e s' → False) :
    codeAny (model P w) callerA (.call (.ref fa) ⟨[.ref a], []⟩) (fun r s' => r = .ok (.ret (.bool true)) ∧ OldK z.heap s'.heap ∧ s'.os = z.os ∧ AllBare s'.gens) z := by
  -- what is neither a list nor the empty table is not tracked
  have away : ∀ {b : Addr} {o : Obj}, z.heap.get? b = some o → (∀ d n, o.data ≠ .seq d n) → o.data ≠ .fields #[] → H b = none := by
    intro b o at_ h1 h2
    by_cases q : H b = none
    · exact q
    · rcases alone b q with e | e
      · subst e
        obtain ⟨d, n, e⟩ := isL
        rw [at_] at e
        exact absurd (Option.some.inj e) (h1 d n)
      · subst e
        rw [hT] at at_
        exact absurd (congrArg Obj.data (Option.some.inj at_)).symm h2
  have dictFree : ∀ {b : Addr} {o : Obj} {es : Array DictEntry} {n : Nat}, z.heap.get? b = some o → o.data = .dict es n → H b = none := by
    intro b o es n at_ da
    exact away at_ (fun d m e => by rw [da] at e; cases e) (fun e => by rw [da] at e; cases e)
  have moved : ∀ {b : Addr} {m : Str → Option Value}, z.heap.Ns b m → (hidT z.heap H).Ns b m := by
    rintro b m ⟨o, es, n, at_, da, r⟩
    exact ⟨o, es, n, hidT_get at_ (dictFree at_ da), da, r⟩
  have kin2 : K.In (hidT z.heap H) := by
    intro b o at_
    refine hidT_get (kin b o at_) ?_
    by_cases q : H b = none
    · exact q
    · rcases alone b q with e | e
      · subst e
        rw [apart q] at at_
        cases at_
      · subst e
        rw [nT] at at_
        cases at_
  have apartG : mainGlobals ≠ T := fun e => by
    obtain ⟨o, es, n, at_, da, _⟩ := ng
    rw [e, hT] at at_
    cases at_
    cases da
  have TB : TabB (hidT z.heap H) mg c T := by
    refine ⟨?_, ?_, apartG⟩
    · obtain ⟨o, vs, file, tf, flags, tg, inF, text, tt, e1, r1, r2, r3, rest⟩ := hC
      refine ⟨o, vs, file, tf, flags, tg, inF, text, tt, hidT_get e1 (away e1 (fun d n e => by rw [r2] at e; cases e) (fun e => ?_)), r1, r2, r3, rest⟩
      rw [r2] at e
      cases e
      cases r3
    · obtain ⟨bm, ob, b1, b2, b3, b4, b5, b6⟩ := bm
      refine ⟨bm, ob, b1, b2, fun e => ?_, fun e => ?_, hidT_get b3 (away b3 (fun d n e => by rw [b6] at e; cases e) (fun e => by rw [b6] at e; cases e)), b4, b5, b6⟩
      · obtain ⟨o, es, n, at_, da, _⟩ := ng
        rw [e, at_] at b3
        cases b3
        rw [da] at b6
        cases b6
      · rw [e, hT] at b3
        cases b3
        cases b6
  obtain ⟨mc, c1, c2⟩ := nolim
  have e0 : Env0 P w K mg (hidT z.heap H) callerA [] z H :=
    { frames := rfl, mod := ⟨kin2, moved ng, ⟨mb, moved nb, boot⟩, ⟨mc, moved c1, c2⟩⟩, bs := fun _ _ at_ => of_hidT at_, bsz := Nat.le_of_eq (hidT_size _ _), funs := trivial,
      frf := fun b hb => absurd (show b ∈ ([] : List Addr) from hb) List.not_mem_nil, hok := hok, bare := .of_eq g }
  refine codeAny_mono ((F _ kin2 (moved ng) TB).goes callerA [] z H ⟨[.ref a], []⟩ [.ref a] [.ref a] _ _ rfl room e0 (binds z (.ref a)) (.cons rfl .nil) want) ?_
  intro r s' out
  match r, out with
  | .error e, out => exact (calm e s' out).elim
  | .ok .next, out => exact False.elim out
  | .ok .brk, out => exact False.elim out
  | .ok .cont, out => exact False.elim out
  | .ok (.ret u), out =>
    obtain ⟨v, H', os, bare, un, hok', r', q⟩ := out
    have q' : v = .bl true := q
    subst q'
    have eu : u = Value.bool true := r'
    subst eu
    have kept : ∀ b o, b ≠ T → z.heap.get? b = some o → s'.heap.get? b = some o := by
      intro b o nb at_
      by_cases q : H b = none
      · exact un.keep b o at_ q (fun y => absurd (show b ∈ ([] : List Addr) from y) List.not_mem_nil) List.not_mem_nil
      · rcases only b nb with y | ⟨ob, xs, y⟩
        · exact absurd y q
        · obtain ⟨e1, _⟩ := hok b _ y
          obtain ⟨e2, _⟩ := hok' b _ (un.frzs b ob _ y)
          rw [at_] at e1
          cases e1
          exact e2
    obtain ⟨more, hm⟩ := un.tbls T #[] hH
    have grown := hok' T _ hm
    refine ⟨rfl, ⟨fun b o at_ => ?_, fun b o at_ => ?_⟩, os, bare⟩
    · by_cases e : b = T
      · subst e
        rw [hT] at at_
        cases at_
        exact .inr (.inl ⟨(hC.tab hT).isCodeTable, rfl, #[], more, rfl, by rw [Array.empty_append]; exact (Array.empty_append (xs := more)) ▸ grown⟩)
      · exact .inl (kept b o e at_)
    · by_cases e : b = T
      · subst e
        exact ⟨_, grown⟩
      · exact ⟨o, kept b o e at_⟩
end
theorem walk_freeT {l : PySem.W.OpenLaw} {n k : Nat} {q : Program} {loose : List Str} {XP : (Str → Option Value) → Heap → Prop} {YP : World → Heap → Prop} {d : DefRec} {K : Params → PySem.W.Frag} {CX : CXT} {sp : PySem.W.Frag → Addr → Sp} {x : Str} {T : Addr}
    (most : l.most = some n) (small : n ≤ sizeLine) (plain : d.params.defaults = []) (room : Room k callerA) (hY : ∀ (w : World) (h : Heap), YP w h → (K w.params).In h ∧ h.get? T = some { cls := .none, data := .fields #[] })
    (F : ∀ (w : World) (mg : Str → Option Value) (fa : Addr) (h : Heap), (K w.params).In h → h.Ns mainGlobals mg → mg d.name = some (.ref fa) →
      ∃ (fd : FuncData) (c : Addr), (∀ (s : Shared) (u : Value), BindsTo s fd ⟨[u], []⟩ [(x, u)]) ∧ (K w.params).lookup T = none ∧ PySem.W.CodeHd h c T ∧ ∀ base : Heap, (K w.params).In base → base.Ns mainGlobals mg → TabB base mg c T → FnG l.prog w (K w.params) mg base CX k fa fd [x] (sp (K w.params) T))
    (want : ∀ (K : PySem.W.Frag) (H : Hp) (a : Addr) (ns : List Int), ns.length ≤ n → (∀ i ∈ ns, Builtin.Int.intBits i ≤ 1048576) → SqL K H a (ns.map V.int) → H T = some (.tbl #[]) → sp K T [.ref a] H (fun v _ => v = .bl true) fun _ _ _ => False)
    (calm : ∀ (H : Hp) (s : Shared) (e : Value) (s' : Shared), CX [] H s (fun _ _ _ => False) e s' → False) :
    PySem.W.WalkO q loose XP YP l.row.toRowW d [] (fun f vs => PySem.call f vs) := by
  refine Att.attach_callB most plain ?_
  intro w s₀ z mg mb fa o pm cd doc a us ns G Y ho hd hcd hmg at_ nums len bits g
  obtain ⟨kin, hT⟩ := hY w _ Y
  obtain ⟨fd, c, hb, nT, hC, hF⟩ := F w mg fa _ kin G.T.g hmg
  have vals := vals_ints nums
  have lenU : us.length = ns.length := nums.length
  have lenS : (ns.map V.int).length ≤ sizeLine := by rw [List.length_map]; exact Nat.le_trans len small
  have isL : ∃ d n, (z.heap.get? a).map Obj.data = some (.seq d n) := ⟨us.toArray, _, by rw [at_]; rfl⟩
  have aT : a ≠ T := fun e => by
    rw [e, hT] at at_
    cases at_
  let Z : Hp := upd (fun _ => none) T (.tbl #[])
  have zT : Z T = some (.tbl #[]) := upd_same
  have zN : ∀ b, b ≠ T → Z b = none := fun b hb => by show upd (fun _ => none) T (.tbl #[]) b = none; rw [upd_ne hb]
  have zok : ∀ b u, b = T → Z b = some u → u = .tbl #[] := fun b u e y => by rw [e, zT] at y; exact (Option.some.inj y).symm
  cases lk : (K w.params).lookup a with
  | some ob =>
    have eo := kin a ob lk
    rw [at_] at eo
    cases eo
    refine answer_fromT (H := Z) g hT zT (fun b nb => .inl (zN b nb)) (fun b y => .inr (Classical.byContradiction fun nb => y (zN b nb))) isL kin (fun y => absurd (zN a aT) y) nT hC G.T.g G.T.b G.T.builtins G.T.nolimit G.T.bmain (fun b u y => ?_) room hF hb ?_ fun e s' => calm _ z e s'
    · by_cases e : b = T
      · rw [zok b u e y, e]
        exact hT
      · rw [zN b e] at y
        cases y
    · exact want _ _ a ns len bits (.inr ⟨_, us.toArray, _, lk, rfl, rfl, rfl, by simpa [lenU] using lenS, by simpa using vals⟩) zT
  | none =>
    let S : HO := .frz { cls := .type "list", data := .seq us.toArray } (.lst (ns.map V.int))
    have yes : upd Z a S a = some S := upd_same
    have no : ∀ b, b ≠ a → upd Z a S b = Z b := fun b hb => by rw [upd_ne hb]
    have yT : upd Z a S T = some (.tbl #[]) := by rw [no T (Ne.symm aT)]; exact zT
    refine answer_fromT (H := upd Z a S) g hT yT (fun b nb => ?_) (fun b y => ?_) isL kin (fun _ => lk) nT hC G.T.g G.T.b G.T.builtins G.T.nolimit G.T.bmain (fun b u y => ?_) room hF hb ?_ fun e s' => calm _ z e s'
    · by_cases hb : b = a
      · subst hb
        exact .inr ⟨_, _, yes⟩
      · exact .inl ((no b hb).trans (zN b nb))
    · by_cases hb : b = a
      · exact .inl hb
      · exact .inr (Classical.byContradiction fun nb => y ((no b hb).trans (zN b nb)))
    · by_cases hb : b = a
      · subst hb
        have ey := Option.some.inj (yes.symm.trans y)
        subst ey
        exact ⟨at_, lenS, us, _, vals, at_⟩
      · rw [no b hb] at y
        by_cases e : b = T
        · rw [zok b u e y, e]
          exact hT
        · rw [zN b e] at y
          cases y
    · exact want _ _ a ns len bits (.inl (.inr ⟨_, yes⟩)) yT
end LB

set_option maxRecDepth 100000
set_option maxHeartbeats 2000000
namespace LB
open PySem PySem.Spec PyProof.Rows L2
def top (i : Nat) : Stmt := PySem.Challenge.pw_asforetold_k32_answers_of_scopes.main.body.getD i (.Pass ⟨0, 0, 0, 0⟩)
abbrev tsInit : Stmt := inClass (top 2) 0
abbrev tsDup : Stmt := inClass (top 2) 1
abbrev tsAlive : Stmt := inClass (top 2) 2
abbrev csInit : Stmt := inClass (top 3) 0
abbrev csDup : Stmt := inClass (top 3) 1
abbrev sAnswer : Stmt := top 4
abbrev sErrors : Stmt := top 5
abbrev sCell : Stmt := top 7
abbrev sDigits : Stmt := top 8
abbrev sDraw : Stmt := top 9
abbrev sAlike : Stmt := top 10
abbrev sEnded : Stmt := top 11
abbrev sTask : Stmt := top 12
abbrev sErrorsDue : Stmt := top 13
abbrev sDue : Stmt := top 14
abbrev sFields : Stmt := top 15
abbrev sRest : Stmt := top 16
abbrev sScopeF : Stmt := top 17
abbrev sNew : Stmt := top 18
abbrev sLaw : Stmt := top 19
end LB

set_option maxRecDepth 100000
set_option maxHeartbeats 4000000
namespace LB
open PySem PySem.Spec PyProof.Rows L2
/-! ### the helpers of a law -/
/-- built-ins' names that the module leaves free -/
structure Names (mg : Str → Option Value) : Prop where
  len : mg "len" = none
  range : mg "range" = none
  int : mg "int" = none
  repr : mg "repr" = none
section
variable {P : Program} {w : World} {K : PySem.W.Frag} {mg : Str → Option Value} {base : Heap}
/-- some int comes back -/
def spCellL (K : PySem.W.Frag) : Sp := fun vs H Q _ => ∃ (a : Addr) (ns : List Int) (k : Int), vs = [.ref a, .int k] ∧ SqL K H a (ns.map V.int) ∧ 0 ≤ k ∧ ∀ c : Int, Q (.int c) H
theorem scCell : FnScope ["script", "k"] ["script", "k"] (defScope sCell) := ⟨rfl, rfl, rfl, by decide +kernel, rfl, by decide +kernel, by decide +kernel⟩
theorem ok_cell {f : Addr} {fd : FuncData} (F : Fun K "_law_cell" "_law_cell" sCell f fd) (M : Names mg) : FnOk P w K mg base CX0 1 f fd ["script", "k"] (spCellL K) := by
  refine F.ok scCell (fun vs H Q E h => ?_) (fun cdv A outer s H vs Q E hr h => ?_)
  · obtain ⟨a, ns, k, rfl, _⟩ := h
    rfl
  · obtain ⟨a, ns, k, rfl, hS, h0, q⟩ := h
    refine ⟨_, (pss_cons (ps_if (pt_cmpR op_lt (pv 1) (pe_callB call_len_seq (by rfl) M.len PySem.boot_len (pa_cons (pv 0) pa_nil)) (nomark _)) (pss_one (ps_ret (pe_ix ix_list (pv 0) (pv 1) (fun _ _ => rfl)))) pss_nil)
        (pss_one (ps_ret pe_int))), ?_⟩
    refine ⟨_, rfl, _, rfl, a, _, rfl, .inl hS, _, _, rfl, rfl, _, rfl, ?_⟩
    refine ite2 (fun c => ?_) (fun c => q 0)
    have lt := of_decide_eq_true c
    rw [List.length_map] at lt
    obtain ⟨j, rfl⟩ : ∃ j : Nat, k = (j : Int) := ⟨k.toNat, by omega⟩
    have hj : j < ns.length := by omega
    exact ⟨_, rfl, _, rfl, a, _, _, _, rfl, rfl, hS, atI_nat (v := V.int ns[j]) (by rw [List.getElem?_map, List.getElem?_eq_getElem hj]; rfl), q _⟩
/-- a number of three digits at most -/
def Dig (i : Int) : Prop := 0 ≤ i ∧ i < 1000
/-- a new list of at most 63 * 60 such numbers -/
def spDigits (K : PySem.W.Frag) : Sp := fun vs H Q _ => ∃ (a : Addr) (ns : List Int) (i j : Int), vs = [.ref a, .int i, .int j] ∧ SqL K H a (ns.map V.int) ∧ 0 ≤ i ∧ i ≤ j ∧ j ≤ 63 ∧
  ∀ (ds : List Int) (H' : Hp) (p : Addr), Same H H' → H p = none → H' p = some (.lst (ds.map V.int)) → (∀ d ∈ ds, Dig d) → ds.length ≤ 3780 → Q (.ref p) H'
theorem scDigits : FnScope ["script", "first", "last", "digits", "k", "cell", "turn", "seed"] ["script", "first", "last"] (defScope sDigits) := ⟨rfl, rfl, rfl, by decide +kernel, rfl, by decide +kernel, by decide +kernel⟩
theorem same_upd {H H' : Hp} {p : Addr} {o : HO} (e : Same H H') (n : H p = none) : Same H (upd H' p o) := fun b u q => by
  rw [upd_ne (ne_of_none q n)]
  exact e b u q
theorem dig_more {c : Int} {ds : List Int} (h : ∀ d ∈ ds, Dig d) : ∀ d ∈ ds ++ [c % 1000], Dig d := by
  intro d hd
  rcases List.mem_append.mp hd with h1 | h1
  · exact h d h1
  · rw [List.mem_singleton.mp h1]
    exact ⟨Int.emod_nonneg _ (by decide), Int.emod_lt_of_pos _ (by decide)⟩
theorem lst_more {ds : List Int} {c : Int} : HO.lst (ds.map V.int ++ [V.int c]) = HO.lst ((ds ++ [c]).map V.int) := by rw [List.map_append] <;> rfl
theorem small_line {n : Nat} (h : n ≤ 4000) : n < sizeLine := Nat.lt_of_le_of_lt h (by decide)
theorem ok_digits {f fC : Addr} {fd fdC : FuncData} (F : Fun K "_law_digits" "_law_digits" sDigits f fd) (M : Names mg) (FC : Fun K "_law_cell" "_law_cell" sCell fC fdC) (mCell : mg "_law_cell" = some (.ref fC)) (bCell : Binds K fdC ["script", "k"] []) :
    FnOk P w K mg base CX0 2 f fd ["script", "first", "last"] (spDigits K) := by
  have GCell : FnOk P w K mg base CX0 1 fC fdC ["script", "k"] (spCellL K) := ok_cell FC M
  have kCell := FC.kp
  refine F.ok scDigits (fun vs H Q E h => ?_) (fun cdv A outer s H vs Q E hr h => ?_)
  · obtain ⟨a, ns, i, j, rfl, _⟩ := h
    rfl
  · obtain ⟨a, ns, i, j, rfl, hS, h0, hij, hj, q⟩ := h
    have nd := scDigits.nd
    refine ⟨_, (pss_cons (ps_set (i := 3) nd rfl (Or.inl rfl) (pe_lst pa_nil))
        (pss_cons (ps_for PassesOwn.never rfl (pi_range2 (by rfl) M.range (pa_cons (pv 1) (pa_cons (pv 2) pa_nil))) (pg_name (i := 4) nd rfl (Or.inl rfl)) (pss_cons (ps_set (i := 5) nd rfl (Or.inl rfl) (pe_call GCell (hr.mono (by decide)) rfl mCell kCell bCell .nil pass0 (pa_cons (pv 0) (pa_cons (pv 4) pa_nil))))
        (pss_cons (ps_if (pt_cmpR op_lt (pv 5) pe_int (nomark _)) (pss_one (ps_set (i := 5) nd rfl (Or.inl rfl) (pe_op op_sub pe_int (pe_op op_mul pe_int (pv 5))))) pss_nil)
        (pss_one (ps_if (pt_cmpR op_ge (pv 5) pe_int (nomark _)) (pss_one (ps_for PassesOwn.never rfl (pi_range1 (by rfl) M.range (pa_cons pe_int pa_nil)) (pg_name (i := 6) nd rfl (Or.inl rfl)) (pss_one (ps_if (pt_cmpR op_gt (pv 5) pe_int (nomark _)) (pss_cons (ps_expr (pe_bm PySem.F.plainAttrs_list PySem.F.slot_list_append PySem.F.type_list_append mt_append (pv 3) (pa_cons (pe_op op_mod (pe_callTy call_int1 (by rfl) M.int (by decide +kernel) (pa_cons (pv 5) pa_nil)) pe_int) pa_nil)))
        (pss_one (ps_set (i := 5) nd rfl (Or.inl rfl) (pe_op op_fdiv (pv 5) pe_int)))) pss_nil)))) (pss_cons (ps_set (i := 7) nd rfl (Or.inl rfl) (pe_op op_mod (pe_callTy call_int1 (by rfl) M.int (by decide +kernel) (pa_cons (pe_op op_add (pe_op op_add (pe_op op_mul (pv 5) pe_int) (pe_op op_mul (pv 4) pe_int)) pe_int) pa_nil)) pe_int))
        (pss_one (ps_for PassesOwn.never rfl (pi_range1 (by rfl) M.range (pa_cons pe_int pa_nil)) (pg_name (i := 6) nd rfl (Or.inl rfl)) (pss_cons (ps_set (i := 7) nd rfl (Or.inl rfl) (pe_op op_mod (pe_callTy call_int1 (by rfl) M.int (by decide +kernel) (pa_cons (pe_op op_add (pe_op op_add (pe_op op_mul (pv 7) pe_int) (pe_op op_mul pe_int (pv 6))) pe_int) pa_nil)) pe_int))
        (pss_one (ps_expr (pe_bm PySem.F.plainAttrs_list PySem.F.slot_list_append PySem.F.type_list_append mt_append (pv 3) (pa_cons (pe_op op_mod (pe_callTy call_int1 (by rfl) M.int (by decide +kernel) (pa_cons (pe_op op_fdiv (pv 7) pe_int) pa_nil)) pe_int) pa_nil)))))))))))))
        (pss_one (ps_ret (pv 3))))), ?_⟩
    refine ⟨(by show 0 ≤ sizeLine; decide), fun p hp => ?_⟩
    refine ⟨_, rfl, _, rfl, i, j, rfl, ⟨by omega, by omega, by omega, by omega⟩, ?_⟩
    refine for_range (lo := i) (n := (j - i).toNat) (fun m σ H' => ∃ (ds : List Int) (v4 v5 v6 v7 : Option V), σ = [some (.ref a), some (.int i), some (.int j), some (.ref p), v4, v5, v6, v7] ∧ Same H H' ∧ H' p = some (.lst (ds.map V.int)) ∧ (∀ d ∈ ds, Dig d) ∧ ds.length ≤ 60 * m)
      ⟨[], none, none, none, none, rfl, same_upd (Same.refl H) hp, upd_same, by simp, by simp⟩ ?_ ?_
    · rintro m σ H' hm ⟨ds, v4, v5, v6, v7, rfl, sm, hl, hd, hlen⟩
      refine ⟨_, rfl, _, rfl, a, ns, _, rfl, sm.seq hS, by omega, fun c => ?_⟩
      refine ⟨_, rfl, _, _, rfl, rfl, _, rfl, ?_⟩
      refine ite2 (fun _ => ?_) (fun _ => ?_)
      · refine ⟨_, rfl, _, _, rfl, rfl, .inl ⟨by decide, by decide⟩, _, _, rfl, rfl, ?_⟩
        generalize (1 : Int) - 2 * c = c'
        (refine ⟨_, rfl, _, _, rfl, rfl, _, rfl, ?_⟩
         refine ite2 (fun _ => ?_) (fun _ => ?_)
         · refine ⟨60, rfl, by decide, by decide, for_range (n := 60) (fun t σ H2 => ∃ (ds : List Int) (c : Int) (v6 : Option V), σ = [some (.ref a), some (.int i), some (.int j), some (.ref p), some (.int (i + m)), some (.int c), v6, v7] ∧ Same H H2 ∧ H2 p = some (.lst (ds.map V.int)) ∧ (∀ d ∈ ds, Dig d) ∧ ds.length ≤ 60 * m + t)
             ⟨ds, _, v6, rfl, sm, hl, hd, by omega⟩ ?_ ?_⟩
           · rintro t σ H2 ht ⟨ds, c, v6, rfl, sm, hl, hd, hlen⟩
             refine ⟨_, rfl, _, _, rfl, rfl, _, rfl, ?_⟩
             refine ite2 (fun _ => ?_) (fun _ => ?_)
             · refine ⟨_, rfl, .inl ⟨rfl, _, SqL.of hl⟩, _, rfl, .inl ⟨_, rfl, _, _, rfl, rfl, (by show (0 : Int) < 1000; decide), p, _, _, rfl, rfl, hl, (by rw [List.length_map]; exact small_line (by omega)), ?_⟩⟩
               refine ⟨_, rfl, _, _, rfl, rfl, ⟨by decide, by decide⟩, ?_⟩
               exact ⟨ds ++ [c % 1000], _, _, rfl, same_upd sm hp, upd_same.trans (congrArg some lst_more), dig_more hd, by rw [List.length_append, List.length_singleton]; omega⟩
             · exact ⟨ds, _, _, rfl, sm, hl, hd, by omega⟩
           · rintro σ H2 ⟨ds, c, v6, rfl, sm, hl, hd, hlen⟩
             exact ⟨ds, _, _, _, _, rfl, sm, hl, hd, by omega⟩
         · refine ⟨_, rfl, _, _, rfl, rfl, .inr ⟨by decide, by decide⟩, _, rfl, _, _, rfl, rfl, .inr ⟨by decide, by decide⟩, _, _, rfl, rfl, _, _, rfl, rfl, .inl ⟨_, rfl, _, _, rfl, rfl, (by show (0 : Int) < 2147483399; decide), ?_⟩⟩
           refine ⟨12, rfl, by decide, by decide, for_range (n := 12) (fun t σ H2 => ∃ (ds : List Int) (c : Int) (v6 : Option V) (s7 : Int), σ = [some (.ref a), some (.int i), some (.int j), some (.ref p), some (.int (i + m)), some (.int c), v6, some (.int s7)] ∧ Same H H2 ∧ H2 p = some (.lst (ds.map V.int)) ∧ (∀ d ∈ ds, Dig d) ∧ ds.length ≤ 60 * m + t)
             ⟨ds, _, v6, _, rfl, sm, hl, hd, by omega⟩ ?_ ?_⟩
           · rintro t σ H2 ht ⟨ds, c, v6, s7, rfl, sm, hl, hd, hlen⟩
             refine ⟨_, rfl, _, _, rfl, rfl, .inr ⟨by decide, by decide⟩, _, rfl, _, _, rfl, rfl, .inl ⟨by decide, by decide⟩, _, _, rfl, rfl, _, _, rfl, rfl, .inl ⟨_, rfl, _, _, rfl, rfl, (by show (0 : Int) < 2147483563; decide), ?_⟩⟩
             refine ⟨_, rfl, .inl ⟨rfl, _, SqL.of hl⟩, _, rfl, _, _, rfl, rfl, ⟨by decide, by decide⟩, .inl ⟨_, rfl, _, _, rfl, rfl, (by show (0 : Int) < 1000; decide), p, _, _, rfl, rfl, hl, (by rw [List.length_map]; exact small_line (by omega)), ?_⟩⟩
             exact ⟨ds ++ [_ % 1000], _, _, _, rfl, same_upd sm hp, upd_same.trans (congrArg some lst_more), dig_more hd, by rw [List.length_append, List.length_singleton]; omega⟩
           · rintro σ H2 ⟨ds, c, v6, s7, rfl, sm, hl, hd, hlen⟩
             exact ⟨ds, _, _, _, _, rfl, sm, hl, hd, by omega⟩)
      · (refine ⟨_, rfl, _, _, rfl, rfl, _, rfl, ?_⟩
         refine ite2 (fun _ => ?_) (fun _ => ?_)
         · refine ⟨60, rfl, by decide, by decide, for_range (n := 60) (fun t σ H2 => ∃ (ds : List Int) (c : Int) (v6 : Option V), σ = [some (.ref a), some (.int i), some (.int j), some (.ref p), some (.int (i + m)), some (.int c), v6, v7] ∧ Same H H2 ∧ H2 p = some (.lst (ds.map V.int)) ∧ (∀ d ∈ ds, Dig d) ∧ ds.length ≤ 60 * m + t)
             ⟨ds, _, v6, rfl, sm, hl, hd, by omega⟩ ?_ ?_⟩
           · rintro t σ H2 ht ⟨ds, c, v6, rfl, sm, hl, hd, hlen⟩
             refine ⟨_, rfl, _, _, rfl, rfl, _, rfl, ?_⟩
             refine ite2 (fun _ => ?_) (fun _ => ?_)
             · refine ⟨_, rfl, .inl ⟨rfl, _, SqL.of hl⟩, _, rfl, .inl ⟨_, rfl, _, _, rfl, rfl, (by show (0 : Int) < 1000; decide), p, _, _, rfl, rfl, hl, (by rw [List.length_map]; exact small_line (by omega)), ?_⟩⟩
               refine ⟨_, rfl, _, _, rfl, rfl, ⟨by decide, by decide⟩, ?_⟩
               exact ⟨ds ++ [c % 1000], _, _, rfl, same_upd sm hp, upd_same.trans (congrArg some lst_more), dig_more hd, by rw [List.length_append, List.length_singleton]; omega⟩
             · exact ⟨ds, _, _, rfl, sm, hl, hd, by omega⟩
           · rintro σ H2 ⟨ds, c, v6, rfl, sm, hl, hd, hlen⟩
             exact ⟨ds, _, _, _, _, rfl, sm, hl, hd, by omega⟩
         · refine ⟨_, rfl, _, _, rfl, rfl, .inr ⟨by decide, by decide⟩, _, rfl, _, _, rfl, rfl, .inr ⟨by decide, by decide⟩, _, _, rfl, rfl, _, _, rfl, rfl, .inl ⟨_, rfl, _, _, rfl, rfl, (by show (0 : Int) < 2147483399; decide), ?_⟩⟩
           refine ⟨12, rfl, by decide, by decide, for_range (n := 12) (fun t σ H2 => ∃ (ds : List Int) (c : Int) (v6 : Option V) (s7 : Int), σ = [some (.ref a), some (.int i), some (.int j), some (.ref p), some (.int (i + m)), some (.int c), v6, some (.int s7)] ∧ Same H H2 ∧ H2 p = some (.lst (ds.map V.int)) ∧ (∀ d ∈ ds, Dig d) ∧ ds.length ≤ 60 * m + t)
             ⟨ds, _, v6, _, rfl, sm, hl, hd, by omega⟩ ?_ ?_⟩
           · rintro t σ H2 ht ⟨ds, c, v6, s7, rfl, sm, hl, hd, hlen⟩
             refine ⟨_, rfl, _, _, rfl, rfl, .inr ⟨by decide, by decide⟩, _, rfl, _, _, rfl, rfl, .inl ⟨by decide, by decide⟩, _, _, rfl, rfl, _, _, rfl, rfl, .inl ⟨_, rfl, _, _, rfl, rfl, (by show (0 : Int) < 2147483563; decide), ?_⟩⟩
             refine ⟨_, rfl, .inl ⟨rfl, _, SqL.of hl⟩, _, rfl, _, _, rfl, rfl, ⟨by decide, by decide⟩, .inl ⟨_, rfl, _, _, rfl, rfl, (by show (0 : Int) < 1000; decide), p, _, _, rfl, rfl, hl, (by rw [List.length_map]; exact small_line (by omega)), ?_⟩⟩
             exact ⟨ds ++ [_ % 1000], _, _, _, rfl, same_upd sm hp, upd_same.trans (congrArg some lst_more), dig_more hd, by rw [List.length_append, List.length_singleton]; omega⟩
           · rintro σ H2 ⟨ds, c, v6, s7, rfl, sm, hl, hd, hlen⟩
             exact ⟨ds, _, _, _, _, rfl, sm, hl, hd, by omega⟩)
    · rintro σ H' ⟨ds, v4, v5, v6, v7, rfl, sm, hl, hd, hlen⟩
      exact ⟨_, rfl, q ds H' p sm hp hl hd (by omega)⟩
end
end LB

set_option maxRecDepth 100000
set_option maxHeartbeats 4000000
namespace LB
open PySem PySem.Spec PyProof.Rows L2
/-! ### the box of draws -/
/-- at b: a list of the digits' list and of a place -/
def Box (H : Hp) (b : Addr) : Prop := ∃ (l : Addr) (ds : List Int) (n : Int), H b = some (.lst [.ref l, .int n]) ∧ H l = some (.lst (ds.map V.int)) ∧ b ≠ l ∧ 0 ≤ n ∧ ds.length ≤ 3780
/-- all stands but what is at b, and the list of the digits is the same one -/
structure But (b : Addr) (H H' : Hp) : Prop where
  k : ∀ a o, a ≠ b → H a = some o → H' a = some o
  d : ∀ l n, H b = some (.lst [.ref l, .int n]) → ∃ n' : Int, H' b = some (.lst [.ref l, .int n'])
theorem But.refl (b : Addr) (H : Hp) : But b H H := ⟨fun _ _ _ q => q, fun l n h => ⟨n, h⟩⟩
theorem But.trans {b : Addr} {H H1 H2 : Hp} (x : But b H H1) (y : But b H1 H2) : But b H H2 := ⟨fun a o n q => y.k a o n (x.k a o n q), fun l n h => let ⟨n', h'⟩ := x.d l n h; y.d l n' h'⟩
theorem But.of {b : Addr} {H H' : Hp} (e : Same H H') : But b H H' := ⟨fun a o _ q => e a o q, fun l n h => ⟨n, e _ _ h⟩⟩
theorem But.new {b : Addr} {H H' : Hp} {p : Addr} {o : HO} (x : But b H H') (n : H' p = none) : But b H (upd H' p o) :=
  ⟨fun a u na q => by
    have q' := x.k a u na q
    rw [upd_ne (ne_of_none q' n)]
    exact q', fun l m h => by
    obtain ⟨n', h'⟩ := x.d l m h
    exact ⟨n', by rw [upd_ne (ne_of_none h' n)]; exact h'⟩⟩
theorem But.seqT {K : PySem.W.Frag} {b : Addr} {H H' : Hp} {a : Addr} {xs : List V} (x : But b H H') (ne : ∀ ys, H b ≠ some (.tup ys)) (nf : ∀ o u, H b ≠ some (.frz o u)) (h : SqT K H a xs) : SqT K H' a xs := by
  rcases h with (h | ⟨o, h⟩) | h
  · exact .inl (.inl (x.k a _ (fun z => ne _ (z ▸ h)) h))
  · exact .inl (.inr ⟨o, x.k a _ (fun z => nf _ _ (z ▸ h)) h⟩)
  · exact .inr h
theorem Box.ne {H : Hp} {b : Addr} (B : Box H b) : (∀ ys, H b ≠ some (.tup ys)) ∧ ∀ o u, H b ≠ some (.frz o u) := by
  obtain ⟨l, ds, n, h, _⟩ := B
  rw [h]
  exact ⟨fun ys z => (by cases z), fun o u z => (by cases z)⟩
theorem Box.tup {K : PySem.W.Frag} {b : Addr} {H H' : Hp} {a : Addr} {xs : List V} (B : Box H b) (x : But b H H') (h : SqT K H a xs) : SqT K H' a xs := x.seqT B.ne.1 B.ne.2 h
theorem Box.new {H : Hp} {b p : Addr} {o : HO} (B : Box H b) (n : H p = none) : Box (upd H p o) b := by
  obtain ⟨l, ds, k, h, hl, r⟩ := B
  exact ⟨l, ds, k, by rw [upd_ne (ne_of_none h n)]; exact h, by rw [upd_ne (ne_of_none hl n)]; exact hl, r⟩
section
variable {P : Program} {w : World} {K : PySem.W.Frag} {mg : Str → Option Value} {base : Heap}
def spDraw (K : PySem.W.Frag) : Sp := fun vs H Q _ => ∃ (b : Addr) (m : Int), vs = [.ref b, .int m] ∧ Box H b ∧ 0 < m ∧ ∀ (r : Int) (H' : Hp), 0 ≤ r → r < m → Box H' b → But b H H' → Q (.int r) H'
theorem scDraw : FnScope ["box", "many", "at"] ["box", "many"] (defScope sDraw) := ⟨rfl, rfl, rfl, by decide +kernel, rfl, by decide +kernel, by decide +kernel⟩
theorem ok_draw {f : Addr} {fd : FuncData} (F : Fun K "_law_draw" "_law_draw" sDraw f fd) (M : Names mg) : FnOk P w K mg base CX0 1 f fd ["box", "many"] (spDraw K) := by
  refine F.ok scDraw (fun vs H Q E h => ?_) (fun cdv A outer s H vs Q E hr h => ?_)
  · obtain ⟨b, m, rfl, _⟩ := h
    rfl
  · obtain ⟨b, m, rfl, ⟨l, ds, n, hb, hl, ne, h0, hlen⟩, hm, q⟩ := h
    have nd := scDraw.nd
    refine ⟨_, (pss_cons (ps_set (i := 2) nd rfl (Or.inl rfl) (pe_ix ix_list (pv 0) pe_int (fun _ _ => rfl)))
        (pss_cons (ps_asg (pe_op op_add (pv 2) pe_int) (pg_sub (pv 0) pe_int set_list))
        (pss_cons (ps_if (pt_cmpR op_lt (pv 2) (pe_callB call_len_seq (by rfl) M.len PySem.boot_len (pa_cons (pe_ix ix_list (pv 0) pe_int (fun _ _ => rfl)) pa_nil)) (nomark _)) (pss_one (ps_ret (pe_op op_mod (pe_callTy call_int1 (by rfl) M.int (by decide +kernel) (pa_cons (pe_ix ix_list (pe_ix ix_list (pv 0) pe_int (fun _ _ => rfl)) (pv 2) (fun _ _ => rfl)) pa_nil)) (pv 1)))) pss_nil)
        (pss_one (ps_ret (pe_op op_mod (pe_callTy call_int1 (by rfl) M.int (by decide +kernel) (pa_cons (pe_op op_add (pe_op op_mul (pv 2) pe_int) pe_int) pa_nil)) (pv 1))))))), ?_⟩
    refine ⟨_, rfl, b, _, _, _, rfl, rfl, SqL.of hb, rfl, ?_⟩
    refine ⟨_, rfl, _, _, rfl, rfl, _, rfl, b, _, _, 1, rfl, rfl, hb, rfl, ?_⟩
    have hb' : upd H b (.lst [.ref l, .int (n + 1)]) b = some (.lst [.ref l, .int (n + 1)]) := upd_same
    have hl' : upd H b (.lst [.ref l, .int (n + 1)]) l = some (.lst (ds.map V.int)) := by rw [upd_ne ne.symm]; exact hl
    have B : Box (upd H b (.lst [.ref l, .int (n + 1)])) b := ⟨l, ds, n + 1, hb', hl', ne, by omega, hlen⟩
    have U : But b H (upd H b (.lst [.ref l, .int (n + 1)])) := ⟨fun a o na z => by rw [upd_ne na]; exact z, fun l' n' z => by
      rw [hb] at z
      cases z
      exact ⟨n + 1, hb'⟩⟩
    refine ⟨_, rfl, _, rfl, b, _, _, _, rfl, rfl, SqL.of hb', rfl, l, _, rfl, .inl (SqL.of hl'), _, _, rfl, rfl, _, rfl, ?_⟩
    refine ite2 (fun c => ?_) (fun c => ?_)
    · have lt := of_decide_eq_true c
      rw [List.length_map] at lt
      obtain ⟨j, rfl⟩ : ∃ j : Nat, n = (j : Int) := ⟨n.toNat, by omega⟩
      have hj : j < ds.length := by omega
      refine ⟨_, rfl, b, _, _, _, rfl, rfl, SqL.of hb', rfl, _, rfl, l, _, _, _, rfl, rfl, SqL.of hl', atI_nat (v := V.int ds[j]) (by rw [List.getElem?_map, List.getElem?_eq_getElem hj]; rfl), .inl ⟨_, rfl, _, rfl, _, _, rfl, rfl, hm, ?_⟩⟩
      exact q _ _ (Int.emod_nonneg _ (by omega)) (Int.emod_lt_of_pos _ hm) B U
    · refine ⟨_, rfl, _, _, rfl, rfl, .inr ⟨by decide, by decide⟩, _, _, rfl, rfl, .inl ⟨_, rfl, _, rfl, _, _, rfl, rfl, hm, ?_⟩⟩
      exact q _ _ (Int.emod_nonneg _ (by omega)) (Int.emod_lt_of_pos _ hm) B U
theorem scAlike : FnScope ["one", "two"] ["one", "two"] (defScope sAlike) := ⟨rfl, rfl, rfl, by decide +kernel, rfl, by decide +kernel, by decide +kernel⟩
theorem ok_alike {f : Addr} {fd : FuncData} (F : Fun K "_law_alike" "_law_alike" sAlike f fd) (M : Names mg) : FnG P w K mg base CX0 1 f fd ["one", "two"] (spAlike K) := by
  refine FnG.of_fun F scAlike (fun vs H Q E h => ?_) (fun cdv A outer s H vs Q E gf hr h => ?_)
  · obtain ⟨x, y, d, rfl, _⟩ := h
    rfl
  · obtain ⟨x, y, d, rfl, hx, hy, S, q⟩ := h
    refine ⟨_, (pss_one (ps_ret (pe_cmpR op_eq (pe_callB (call_repr gf hr.units) (by rfl) M.repr PyProof.Rows.boot_repr (pa_cons (pv 0) pa_nil)) (pe_callB (call_repr gf hr.units) (by rfl) M.repr PyProof.Rows.boot_repr (pa_cons (pv 1) pa_nil)) (nomark _)))), ?_⟩
    refine ⟨_, rfl, x, d, rfl, hx, S, _, rfl, y, d, rfl, hy, S, rfl, ?_⟩
    show Q (V.bl (decide (V.str d.shown = V.str d.shown))) _
    rw [decide_eq_true rfl]
    exact q
end
end LB

set_option maxRecDepth 100000
set_option maxHeartbeats 4000000
namespace LB
open PySem PySem.Spec PyProof.Rows L2
/-! ### tuples stay -/
structure Tp (H H' : Hp) : Prop where
  tup : ∀ a xs, H a = some (.tup xs) → H' a = some (.tup xs)
  frz : ∀ a o u, H a = some (.frz o u) → H' a = some (.frz o u)
theorem Tp.refl (H : Hp) : Tp H H := ⟨fun _ _ z => z, fun _ _ _ z => z⟩
theorem Tp.trans {H H1 H2 : Hp} (x : Tp H H1) (y : Tp H1 H2) : Tp H H2 := ⟨fun a xs z => y.tup a xs (x.tup a xs z), fun a o u z => y.frz a o u (x.frz a o u z)⟩
theorem Tp.same {H H' : Hp} (e : Same H H') : Tp H H' := ⟨fun a xs z => e _ _ z, fun a o u z => e _ _ z⟩
theorem Tp.but {b : Addr} {H H' : Hp} (B : Box H b) (e : But b H H') : Tp H H' :=
  ⟨fun a xs z => e.k a _ (fun y => B.ne.1 xs (y ▸ z)) z, fun a o u z => e.k a _ (fun y => B.ne.2 o u (y ▸ z)) z⟩
theorem Tp.lst {H : Hp} {l : Addr} {xs : List V} {o : HO} (h : H l = some (.lst xs)) : Tp H (upd H l o) :=
  ⟨fun a ys z => by rw [upd_ne (ne_of z h (by intro y; cases y))]; exact z, fun a p u z => by rw [upd_ne (ne_of z h (by intro y; cases y))]; exact z⟩
theorem Tp.seq {K : PySem.W.Frag} {H H' : Hp} {a : Addr} {xs : List V} (x : Tp H H') (h : SqT K H a xs) : SqT K H' a xs := by
  rcases h with (h | ⟨o, h⟩) | h
  · exact .inl (.inl (x.tup _ _ h))
  · exact .inl (.inr ⟨o, x.frz _ _ _ h⟩)
  · exact .inr h
theorem Box.apart {H : Hp} {b l : Addr} (B : Box H b) (n : H l = none) : l ≠ b := fun z => by
  obtain ⟨_, _, _, h, _⟩ := B
  rw [z, h] at n
  cases n
theorem Box.keepL {H H' : Hp} {b l : Addr} {xs : List V} (B : Box H b) (n : H l = none) (U : But b (upd H l (.lst xs)) H') : H' l = some (.lst xs) := U.k l _ (B.apart n) upd_same
theorem Box.same {H H' : Hp} {b : Addr} (B : Box H b) (e : Same H H') : Box H' b := by
  obtain ⟨l, ds, k, h, hl, r⟩ := B
  exact ⟨l, ds, k, e _ _ h, e _ _ hl, r⟩
theorem same_new {H : Hp} {p : Addr} {o : HO} (n : H p = none) : Same H (upd H p o) := same_upd (Same.refl H) n
theorem Box.off {H : Hp} {b l : Addr} (B : Box H b) (e : H l = none) : l ≠ b := B.apart e
/-- a list that is not of the box is written -/
theorem Box.put {H0 H : Hp} {b l : Addr} {o : HO} (B0 : Box H0 b) (B : Box H b) (U : But b H0 H) (e : H0 l = none) : Box (upd H l o) b ∧ But b H0 (upd H l o) := by
  have lb := B0.off e
  obtain ⟨l0, d0, n0, hb0, hl0, _⟩ := B0
  obtain ⟨l1, d1, n1, hb1, hl1, ne1, r⟩ := B
  obtain ⟨n', h'⟩ := U.d l0 n0 hb0
  have el : l1 = l0 := by
    rw [hb1] at h'
    have e2 := Option.some.inj h'
    injection e2 with e3
    injection e3 with e4
    exact V.ref.inj e4
  subst el
  have ll : l ≠ l1 := fun z => by rw [z, hl0] at e; cases e
  have U' : But b H0 (upd H l o) := ⟨fun a u na q => by
    have al : a ≠ l := fun z => by rw [z, e] at q; cases q
    rw [upd_ne al]
    exact U.k a u na q, fun l' m q => by
    obtain ⟨m', q'⟩ := U.d l' m q
    exact ⟨m', by rw [upd_ne (Ne.symm lb)]; exact q'⟩⟩
  exact ⟨⟨l1, d1, n1, by rw [upd_ne (Ne.symm lb)]; exact hb1, by rw [upd_ne (Ne.symm ll)]; exact hl1, ne1, r⟩, U'⟩
end LB

set_option maxRecDepth 100000
set_option maxHeartbeats 4000000
namespace LB
open PySem PySem.Spec PyProof.Rows L2
/-! ### words and tests -/
theorem atI_0 {x : V} {xs : List V} : atI (x :: xs) 0 = some x := atI_nat (j := 0) (v := x) (xs := x :: xs) rfl
theorem iteE {x y : Str} {A B : Prop} (h : x = y) (a : A) : if decide (V.str x = V.str y) = true then A else B := by rw [if_pos (decide_eq_true (congrArg V.str h))]; exact a
theorem iteN {x y : Str} {A B : Prop} (h : x ≠ y) (b : B) : if decide (V.str x = V.str y) = true then A else B := by rw [if_neg (fun c => h (V.str.inj (of_decide_eq_true c)))]; exact b
theorem ite_int {x y : Int} {A B : Prop} (h1 : x = y → A) (h2 : x ≠ y → B) : if decide (V.int x = V.int y) = true then A else B :=
  ite2 (fun c => h1 (V.int.inj (of_decide_eq_true c))) (fun c => h2 fun e => c (decide_eq_true (congrArg V.int e)))
theorem inTwo {x a b : Str} (h : inV (V.str x) [V.str a, V.str b] = true) : a = x ∨ b = x := by
  have h : ((a == x) || ((b == x) || false)) = true := h
  rw [Bool.or_false, Bool.or_eq_true] at h
  exact h.imp (fun e => eq_of_beq e) fun e => eq_of_beq e
theorem inTwo_of {x a b : Str} (h : a = x ∨ b = x) : inV (V.str x) [V.str a, V.str b] = true := by
  show ((a == x) || ((b == x) || false)) = true
  rw [Bool.or_false, Bool.or_eq_true]
  exact h.imp (fun e => beq_iff_eq.mpr e) fun e => beq_iff_eq.mpr e
/-! ### data under what stays -/
theorem sqT_same {K : PySem.W.Frag} {H H' : Hp} {a : Addr} {xs : List V} (e : Same H H') (h : SqT K H a xs) : SqT K H' a xs := (Tp.same e).seq h
theorem sqL_same {K : PySem.W.Frag} {H H' : Hp} {a : Addr} {xs : List V} (e : Same H H') (h : SqL K H a xs) : SqL K H' a xs := by
  rcases h with (h | ⟨o, h⟩) | h
  · exact .inl (.inl (e _ _ h))
  · exact .inl (.inr ⟨o, e _ _ h⟩)
  · exact .inr h
mutual
theorem dp_same {K : PySem.W.Frag} {H H' : Hp} (e : Same H H') : ∀ {v : V} {d : PyData}, Dp K H v d → Dp K H' v d
  | _, _, .non => .non
  | _, _, .bl b => .bl b
  | _, _, .int i => .int i
  | _, _, .str x => .str x
  | _, _, .lst h r => .lst (sqL_same e h) (dpAll_same e r)
  | _, _, .tup h r => .tup (sqT_same e h) (dpAll_same e r)
theorem dpAll_same {K : PySem.W.Frag} {H H' : Hp} (e : Same H H') : ∀ {vs : List V} {ds : List PyData}, DpAll K H vs ds → DpAll K H' vs ds
  | _, _, .nil => .nil
  | _, _, .cons h r => .cons (dp_same e h) (dpAll_same e r)
end
theorem dpI {K : PySem.W.Frag} {H : Hp} : ∀ {ns : List Int}, DpAll K H (ns.map V.int) (ns.map PyData.int)
  | [] => .nil
  | n :: r => .cons (.int n) dpI
theorem map_at {ns : List Int} {j : Nat} {x : V} (h : (ns.map V.int)[j]? = some x) : ∃ q, ns[j]? = some q ∧ x = .int q := by
  rw [List.getElem?_map] at h
  obtain ⟨q, h1, h2⟩ := Option.map_eq_some_iff.mp h
  exact ⟨q, h1, h2.symm⟩
theorem free_new {H : Hp} {p p2 : Addr} {o : HO} (n : H p = none) (n2 : (upd H p o) p2 = none) : H p2 = none := by
  by_cases e : p2 = p
  · rw [e]; exact n
  · rw [upd_ne e] at n2
    exact n2
/-- two items, one told before -/
theorem dp_two {K : PySem.W.Frag} {H : Hp} {r : V} {d : PyData} {k : Int} {p : Addr} (n : H p = none) (h : Dp K H r d) : Dp K (upd H p (.tup [r, .int k])) (.ref p) (.tuple [d, .int k]) :=
  .tup (SqT.of upd_same) (.cons (dp_same (same_new n) h) (.cons (.int _) .nil))
/-! ### comprehensions: one more walk -/
theorem in_tup {K : PySem.W.Frag} {a : Addr} {ys : List V} {Nx : Hp → Prop} {R : V → Hp → (Hp → Prop) → Prop} {H4 : Hp} (Pv : Nat → Hp → Prop) (h0 : Pv 0 H4) (hl : ∀ j H, j ≤ ys.length → Pv j H → SqT K H a ys)
    (hs : ∀ j y H, ys[j]? = some y → Pv j H → R y H (Pv (j + 1))) (hd : ∀ H, Pv ys.length H → Nx H) :
    ∃ W1 : Nat → Nat → Hp → Prop, (∃ m, W1 0 m H4) ∧ ∀ j k H, W1 j k H → ((Itt K a).stop j H ∧ Nx H) ∨ ((Itt K a).go j H ∧ ∃ Nx1 : Hp → Prop, (∀ H', Nx1 H' → ∃ k', k' < k ∧ W1 (j + 1) k' H') ∧ ∀ x H', (Itt K a).yld j H x H' → R x H' Nx1) := by
  refine ⟨fun i m H => m = ys.length - i ∧ i ≤ ys.length ∧ Pv i H, ⟨ys.length, by simp, Nat.zero_le _, h0⟩, ?_⟩
  rintro i m H ⟨rfl, hi, p⟩
  have q := hl i H hi p
  by_cases hlt : i < ys.length
  · refine .inr ⟨⟨ys, ys[i], q, by simp [hlt]⟩, Pv (i + 1), fun H' p' => ⟨ys.length - (i + 1), by omega, rfl, hlt, p'⟩, fun x H' y => ?_⟩
    obtain ⟨e, y⟩ := y
    subst e
    exact hs i x _ (y ys q) p
  · have e : i = ys.length := by omega
    subst e
    exact .inl ⟨⟨ys, q, Nat.le_refl _⟩, hd H p⟩
theorem takeS {α : Type} {l : List α} {i : Nat} {x : α} (h : l[i]? = some x) : l.take (i + 1) = l.take i ++ [x] := by
  rw [List.take_add_one, h]
  rfl
theorem ix_listK {X : Cx} {K : PySem.W.Frag} (h : X.K = K) : IxR X (rIxL K) := by
  subst h
  exact ix_list
theorem ix_tupK {X : Cx} {K : PySem.W.Frag} (h : X.K = K) : IxR X (rIxT K) := by
  subst h
  exact ix_tup
def rTupOf (K : PySem.W.Frag) : List V → Hp → VK → Prop := fun xs H Q => ∃ p ys, xs = [V.ref p] ∧ ((SqL K H p ys ∧ ∀ l, H l = none → Q (.ref l) (upd H l (.tup ys))) ∨ SqT K H p ys ∧ Q (.ref p) H)
theorem call_tupleK {X : Cx} {K : PySem.W.Frag} (h : X.K = K) : CallR X (.type "tuple") (rTupOf K) := by
  subst h
  exact call_tuple_of
theorem pi_tupK {X : Cx} {tg : Expr} {K : PySem.W.Frag} (h : X.K = K) {l : Expr} {tl : TE} (hl : PE X l tl) : PI X tg l (iTup K tl) := by
  subst h
  exact pi_tup hl
end LB

set_option maxRecDepth 100000
set_option maxHeartbeats 8000000
namespace LB
open PySem PySem.Spec PyProof.Rows L2 LamX
/-! ### instants, rows and tasks -/
abbrev Ins := Int × Int
def At (K : PySem.W.Frag) (H : Hp) (v : V) : Option Ins → Prop
  | none => v = .non
  | some p => ∃ a, v = .ref a ∧ SqT K H a [.int p.1, .int p.2]
def dIns : Option Ins → PyData
  | none => .none
  | some p => .tuple [.int p.1, .int p.2]
theorem At.dp {K : PySem.W.Frag} {H : Hp} {v : V} {o : Option Ins} (h : At K H v o) : Dp K H v (dIns o) := by
  cases o with
  | none => cases h; exact .non
  | some p =>
    obtain ⟨a, rfl, q⟩ := h
    exact .tup q (.cons (.int _) (.cons (.int _) .nil))
/-- a datum without lists -/
inductive NoL : PyData → Prop
  | non : NoL .none
  | bl (b : Bool) : NoL (.bool b)
  | int (i : Int) : NoL (.int i)
  | str (x : Str) : NoL (.str x)
  | tup {ds : List PyData} : (∀ d ∈ ds, NoL d) → NoL (.tuple ds)
/-- all stands but what is at b, and tables -/
def BN (b : Addr) (H H' : Hp) : Prop := ∀ a o, a ≠ b → H a = some o → (∀ ps, o ≠ .tbl ps) → H' a = some o
theorem BN.of {b : Addr} {H H' : Hp} (e : Same H H') : BN b H H' := fun a o _ h _ => e a o h
theorem BN.but {b : Addr} {H H' : Hp} (e : But b H H') : BN b H H' := fun a o n h _ => e.k a o n h
theorem BN.ext {b : Addr} {H H' : Hp} (e : ExtN H H') : BN b H H' := fun a o _ h n => e a o h n
theorem BN.trans {b : Addr} {H H1 H2 : Hp} (x : BN b H H1) (y : BN b H1 H2) : BN b H H2 := fun a o n h t => y a o n (x a o n h t) t
/-- nothing of ours is written at b -/
def OffB (b : Addr) (H : Hp) : Prop := ∃ xs, H b = some (.lst xs)
theorem Box.offB {b : Addr} {H : Hp} (B : Box H b) : OffB b H := let ⟨_, _, _, h, _⟩ := B; ⟨_, h⟩
theorem BN.seqT {K : PySem.W.Frag} {b : Addr} {H H' : Hp} {a : Addr} {xs : List V} (x : BN b H H') (o : OffB b H) (h : SqT K H a xs) : SqT K H' a xs := by
  obtain ⟨ys, o⟩ := o
  rcases h with (h | ⟨u, h⟩) | h
  · exact .inl (.inl (x a _ (ne_of h o (by intro z; cases z)) h (fun ps z => by cases z)))
  · exact .inl (.inr ⟨u, x a _ (ne_of h o (by intro z; cases z)) h (fun ps z => by cases z)⟩)
  · exact .inr h
theorem BN.at_ {K : PySem.W.Frag} {b : Addr} {H H' : Hp} {v : V} {p : Option Ins} (x : BN b H H') (o : OffB b H) (h : At K H v p) : At K H' v p := by
  cases p with
  | none => exact h
  | some p =>
    obtain ⟨a, e, q⟩ := h
    exact ⟨a, e, x.seqT o q⟩
theorem ext_seqT {K : PySem.W.Frag} {H H' : Hp} {a : Addr} {xs : List V} (x : ExtN H H') (h : SqT K H a xs) : SqT K H' a xs := by
  rcases h with (h | ⟨u, h⟩) | h
  · exact .inl (.inl (x a _ h (fun ps z => by cases z)))
  · exact .inl (.inr ⟨u, x a _ h (fun ps z => by cases z)⟩)
  · exact .inr h
theorem ext_at {K : PySem.W.Frag} {H H' : Hp} {v : V} {p : Option Ins} (x : ExtN H H') (h : At K H v p) : At K H' v p := by
  cases p with
  | none => exact h
  | some p =>
    obtain ⟨a, e, q⟩ := h
    exact ⟨a, e, ext_seqT x q⟩
/-- a row of the law: place, end, outcome, result, mark -/
structure Rw where
  pl : Int
  en : Ins
  oc : Str
  rs : List Int
  mq : Option Ins
/-- the six that a row and its task share -/
structure Six (K : PySem.W.Frag) (H : Hp) (R : Rw) (e r m : V) : Prop where
  en : At K H e (some R.en)
  rs : ∃ a, r = .ref a ∧ SqT K H a (R.rs.map V.int)
  mq : At K H m R.mq
theorem Six.bn {K : PySem.W.Frag} {b : Addr} {H H' : Hp} {R : Rw} {e r m : V} (x : BN b H H') (o : OffB b H) (h : Six K H R e r m) : Six K H' R e r m :=
  ⟨x.at_ o h.en, let ⟨a, ea, q⟩ := h.rs; ⟨a, ea, x.seqT o q⟩, x.at_ o h.mq⟩
theorem Six.ext {K : PySem.W.Frag} {H H' : Hp} {R : Rw} {e r m : V} (x : ExtN H H') (h : Six K H R e r m) : Six K H' R e r m :=
  ⟨ext_at x h.en, let ⟨a, ea, q⟩ := h.rs; ⟨a, ea, ext_seqT x q⟩, ext_at x h.mq⟩
/-- the row stands at v, its path being p -/
def RwAt (K : PySem.W.Frag) (H : Hp) (v p : V) (R : Rw) : Prop := ∃ a e r m, v = .ref a ∧ H a = some (.lst [p, .int R.pl, .str "finished", e, .str R.oc, r, m]) ∧ Six K H R e r m
theorem RwAt.bn {K : PySem.W.Frag} {b : Addr} {H H' : Hp} {R : Rw} {v p : V} (x : BN b H H') (o : OffB b H) (nb : v ≠ .ref b) (h : RwAt K H v p R) : RwAt K H' v p R := by
  obtain ⟨a, e, r, m, rfl, ha, s⟩ := h
  exact ⟨a, e, r, m, rfl, x a _ (fun z => nb (by rw [z])) ha (fun ps z => by cases z), s.bn x o⟩
theorem RwAt.ext {K : PySem.W.Frag} {H H' : Hp} {R : Rw} {v p : V} (x : ExtN H H') (h : RwAt K H v p R) : RwAt K H' v p R := by
  obtain ⟨a, e, r, m, rfl, ha, s⟩ := h
  exact ⟨a, e, r, m, rfl, x a _ ha (fun ps z => by cases z), s.ext x⟩
/-- what a task's fields tell -/
structure TkF (fs : List (Str × V)) (p pl st e oc r m : V) : Prop where
  path : fs.lookup ("path" : Str) = some p
  place : fs.lookup ("place" : Str) = some pl
  state : fs.lookup ("state" : Str) = some st
  ended : fs.lookup ("ended" : Str) = some e
  outcome : fs.lookup ("outcome" : Str) = some oc
  result : fs.lookup ("result" : Str) = some r
  mark : fs.lookup ("mark" : Str) = some m
  step : fs.lookup ("step" : Str) = some (.int 0)
  scopes : fs.lookup ("scopes" : Str) = some (.int 0)
  wake : fs.lookup ("wake" : Str) = some .non
  started : fs.lookup ("started" : Str) = some .non
  delivered : fs.lookup ("delivered" : Str) = some (.bl false)
  answer : ∃ t, fs.lookup ("answer" : Str) = some t
  nd : fs.lookup ("duplicate" : Str) = none
  na : fs.lookup ("is_alive" : Str) = none
def TkAt (K : PySem.W.Frag) (H : Hp) (C : Addr) (v p pl st e oc r m : V) : Prop := ∃ x dx fs, v = .ref x ∧ H x = some (.ins C dx fs) ∧ TkF fs p pl st e oc r m
theorem TkAt.ext {K : PySem.W.Frag} {H H' : Hp} {C : Addr} {v p pl st e oc r m : V} (x : ExtN H H') (h : TkAt K H C v p pl st e oc r m) : TkAt K H' C v p pl st e oc r m := by
  obtain ⟨a, dx, fs, rfl, ha, f⟩ := h
  exact ⟨a, dx, fs, rfl, x a _ ha (fun ps z => by cases z), f⟩
theorem TkAt.bn {K : PySem.W.Frag} {b : Addr} {H H' : Hp} {C : Addr} {v p pl st e oc r m : V} (x : BN b H H') (o : OffB b H) (h : TkAt K H C v p pl st e oc r m) : TkAt K H' C v p pl st e oc r m := by
  obtain ⟨a, dx, fs, rfl, ha, f⟩ := h
  obtain ⟨ys, o⟩ := o
  exact ⟨a, dx, fs, rfl, x a _ (ne_of ha o (by intro z; cases z)) ha (fun ps z => by cases z), f⟩
structure ScF (fs : List (Str × V)) (p mo dl pa cl late : V) : Prop where
  path : fs.lookup ("path" : Str) = some p
  mode : fs.lookup ("mode" : Str) = some mo
  deadline : fs.lookup ("deadline" : Str) = some dl
  parts : fs.lookup ("parts" : Str) = some pa
  closed : fs.lookup ("closed" : Str) = some cl
  late : fs.lookup ("timed_out" : Str) = some late
  nd : fs.lookup ("duplicate" : Str) = none
def ScAt (K : PySem.W.Frag) (H : Hp) (C : Addr) (v p mo dl pa cl late : V) : Prop := ∃ x dx fs, v = .ref x ∧ H x = some (.ins C dx fs) ∧ ScF fs p mo dl pa cl late
theorem ScAt.ext {K : PySem.W.Frag} {H H' : Hp} {C : Addr} {v p mo dl pa cl late : V} (x : ExtN H H') (h : ScAt K H C v p mo dl pa cl late) : ScAt K H' C v p mo dl pa cl late := by
  obtain ⟨a, dx, fs, rfl, ha, f⟩ := h
  exact ⟨a, dx, fs, rfl, x a _ ha (fun ps z => by cases z), f⟩
theorem ScAt.bn {K : PySem.W.Frag} {b : Addr} {H H' : Hp} {C : Addr} {v p mo dl pa cl late : V} (x : BN b H H') (o : OffB b H) (h : ScAt K H C v p mo dl pa cl late) : ScAt K H' C v p mo dl pa cl late := by
  obtain ⟨a, dx, fs, rfl, ha, f⟩ := h
  obtain ⟨ys, o⟩ := o
  exact ⟨a, dx, fs, rfl, x a _ (ne_of ha o (by intro z; cases z)) ha (fun ps z => by cases z), f⟩
structure ClsT (K : PySem.W.Frag) (C : Addr) : Prop where
  cl : Cls K C
  path : NoAttr K C "path"
  place : NoAttr K C "place"
  state : NoAttr K C "state"
  ended : NoAttr K C "ended"
  outcome : NoAttr K C "outcome"
  result : NoAttr K C "result"
  mark : NoAttr K C "mark"
  step : NoAttr K C "step"
  answer : NoAttr K C "answer"
  wake : NoAttr K C "wake"
  scopes : NoAttr K C "scopes"
  started : NoAttr K C "started"
  delivered : NoAttr K C "delivered"
structure ClsS (K : PySem.W.Frag) (C : Addr) : Prop where
  cl : Cls K C
  path : NoAttr K C "path"
  mode : NoAttr K C "mode"
  deadline : NoAttr K C "deadline"
  parts : NoAttr K C "parts"
  closed : NoAttr K C "closed"
  late : NoAttr K C "timed_out"
theorem put_lt {f : Str} {v : V} {fs : List (Str × V)} {k : Nat} (h : fs.length < k) : (putF f v fs).length < k + 1 := by
  suffices h2 : (putF f v fs).length ≤ fs.length + 1 by omega
  clear h
  induction fs with
  | nil => exact Nat.le_refl _
  | cons p r ih =>
    obtain ⟨g, x⟩ := p
    show (if g = f then (g, v) :: r else (g, x) :: putF f v r).length ≤ r.length + 1 + 1
    split
    · exact Nat.le_succ _
    · exact Nat.succ_le_succ ih
section
variable {P : Program} {w : World} {K : PySem.W.Frag} {mg : Str → Option Value} {base : Heap}
def spTInit (K : PySem.W.Frag) (C : Addr) : Sp := fun vs H Q _ => ∃ (x dx : Addr) (p pl st e oc r m : V), vs = [.ref x, p, pl, st, e, oc, r, m] ∧ H x = some (.ins C dx []) ∧
  ∀ fs H', (∀ b o, b ≠ x → H b = some o → H' b = some o) → H' x = some (.ins C dx fs) → TkF fs p pl st e oc r m → fs.length ≤ 50 → Q .non H'
theorem scTI : FnScope ["self", "path", "place", "state", "ended", "outcome", "result", "mark"] ["self", "path", "place", "state", "ended", "outcome", "result", "mark"] (defScope tsInit) := ⟨rfl, rfl, rfl, by decide +kernel, rfl, by decide +kernel, by decide +kernel⟩
theorem ok_tinit {C f : Addr} {fd : FuncData} {dvs : List V} (F : FunD K "__init__" "Task.__init__" (defArgs tsInit) (defBody tsInit) (defScope tsInit) dvs [] f fd) (T : ClsT K C) : FnOk P w K mg base CX0 1 f fd ["self", "path", "place", "state", "ended", "outcome", "result", "mark"] (spTInit K C) := by
  refine F.ok scTI (fun vs H Q E h => ?_) (fun cdv A outer s H vs Q E hr h => ?_)
  · obtain ⟨x, dx, p, pl, st, e, oc, r, m, rfl, _⟩ := h
    rfl
  · obtain ⟨x, dx, p, pl, st, e, oc, r, m, rfl, hx, q⟩ := h
    have nd := scTI.nd
    have cl := T.cl
    refine ⟨_, PSs.nox (pss_cons (ps_fld (pv 0) (pv 1) rfl)
        (pss_cons (ps_fld (pv 0) (pv 2) rfl)
        (pss_cons (ps_fld (pv 0) (pv 3) rfl)
        (pss_cons (ps_fld (pv 0) (pv 4) rfl)
        (pss_cons (ps_fld (pv 0) (pv 5) rfl)
        (pss_cons (ps_fld (pv 0) (pv 6) rfl)
        (pss_cons (ps_fld (pv 0) (pv 7) rfl)
        (pss_cons (ps_fld (pv 0) pe_int rfl)
        (pss_cons (ps_fld (pv 0) (pe_tup (pa_cons pe_str (pa_cons pe_non pa_nil))) rfl)
        (pss_cons (ps_fld (pv 0) pe_non rfl)
        (pss_cons (ps_fld (pv 0) pe_int rfl)
        (pss_cons (ps_fld (pv 0) pe_non rfl)
        (pss_one (ps_fld (pv 0) pe_bl rfl)))))))))))))), ?_⟩
    refine ⟨_, rfl, _, rfl, x, C, dx, _, rfl, hx, cl, T.path, (by (repeat (first | exact Nat.zero_lt_succ _ | refine put_lt ?_))), ?_⟩
    refine ⟨_, rfl, _, rfl, x, C, dx, _, rfl, upd_same, cl, T.place, (by (repeat (first | exact Nat.zero_lt_succ _ | refine put_lt ?_))), ?_⟩
    refine ⟨_, rfl, _, rfl, x, C, dx, _, rfl, upd_same, cl, T.state, (by (repeat (first | exact Nat.zero_lt_succ _ | refine put_lt ?_))), ?_⟩
    refine ⟨_, rfl, _, rfl, x, C, dx, _, rfl, upd_same, cl, T.ended, (by (repeat (first | exact Nat.zero_lt_succ _ | refine put_lt ?_))), ?_⟩
    refine ⟨_, rfl, _, rfl, x, C, dx, _, rfl, upd_same, cl, T.outcome, (by (repeat (first | exact Nat.zero_lt_succ _ | refine put_lt ?_))), ?_⟩
    refine ⟨_, rfl, _, rfl, x, C, dx, _, rfl, upd_same, cl, T.result, (by (repeat (first | exact Nat.zero_lt_succ _ | refine put_lt ?_))), ?_⟩
    refine ⟨_, rfl, _, rfl, x, C, dx, _, rfl, upd_same, cl, T.mark, (by (repeat (first | exact Nat.zero_lt_succ _ | refine put_lt ?_))), ?_⟩
    refine ⟨_, rfl, x, C, dx, _, rfl, upd_same, cl, T.step, (by (repeat (first | exact Nat.zero_lt_succ _ | refine put_lt ?_))), ?_⟩
    refine ⟨(by show 2 ≤ sizeLine; decide), fun t nt => ?_⟩
    have xt : x ≠ t := fun z => by rw [← z, upd_same] at nt; cases nt
    refine ⟨_, rfl, x, C, dx, _, rfl, (by rw [upd_ne xt]; exact upd_same), cl, T.answer, (by (repeat (first | exact Nat.zero_lt_succ _ | refine put_lt ?_))), ?_⟩
    refine ⟨_, rfl, x, C, dx, _, rfl, upd_same, cl, T.wake, (by (repeat (first | exact Nat.zero_lt_succ _ | refine put_lt ?_))), ?_⟩
    refine ⟨_, rfl, x, C, dx, _, rfl, upd_same, cl, T.scopes, (by (repeat (first | exact Nat.zero_lt_succ _ | refine put_lt ?_))), ?_⟩
    refine ⟨_, rfl, x, C, dx, _, rfl, upd_same, cl, T.started, (by (repeat (first | exact Nat.zero_lt_succ _ | refine put_lt ?_))), ?_⟩
    refine ⟨_, rfl, x, C, dx, _, rfl, upd_same, cl, T.delivered, (by (repeat (first | exact Nat.zero_lt_succ _ | refine put_lt ?_))), ?_⟩
    refine q _ _ (fun b o hb e => ?_) upd_same ?_ ?_
    · have bt : b ≠ t := fun z => by
        rw [← z] at nt
        simp only [upd_ne hb] at nt
        rw [e] at nt
        cases nt
      simp only [upd_ne hb, upd_ne bt]
      exact e
    · constructor
      all_goals first | (refine ⟨.ref t, ?_⟩; (simp only [lookup_putF]; repeat (first | (refine (if_neg ?_).trans ?_; · decide +kernel) | exact if_pos rfl | rfl)); done) | ((simp only [lookup_putF]; repeat (first | (refine (if_neg ?_).trans ?_; · decide +kernel) | exact if_pos rfl | rfl)); done)
    · exact Nat.le_of_lt (by (repeat (first | exact Nat.zero_lt_succ _ | refine put_lt ?_)))
def spSInit (K : PySem.W.Frag) (C : Addr) : Sp := fun vs H Q _ => ∃ (x dx : Addr) (p mo dl pa c late : V), vs = [.ref x, p, mo, dl, pa, c, late] ∧ H x = some (.ins C dx []) ∧
  ∀ fs H', (∀ b o, b ≠ x → H b = some o → H' b = some o) → H' x = some (.ins C dx fs) → ScF fs p mo dl pa c late → Q .non H'
theorem scSI : FnScope ["self", "path", "mode", "deadline", "parts", "closed", "timed_out"] ["self", "path", "mode", "deadline", "parts", "closed", "timed_out"] (defScope csInit) := ⟨rfl, rfl, rfl, by decide +kernel, rfl, by decide +kernel, by decide +kernel⟩
theorem ok_sinit {C f : Addr} {fd : FuncData} {dvs : List V} (F : FunD K "__init__" "Scope.__init__" (defArgs csInit) (defBody csInit) (defScope csInit) dvs [] f fd) (T : ClsS K C) : FnOk P w K mg base CX0 1 f fd ["self", "path", "mode", "deadline", "parts", "closed", "timed_out"] (spSInit K C) := by
  refine F.ok scSI (fun vs H Q E h => ?_) (fun cdv A outer s H vs Q E hr h => ?_)
  · obtain ⟨x, dx, p, mo, dl, pa, c, late, rfl, _⟩ := h
    rfl
  · obtain ⟨x, dx, p, mo, dl, pa, c, late, rfl, hx, q⟩ := h
    have nd := scSI.nd
    have cl := T.cl
    refine ⟨_, PSs.nox (pss_cons (ps_fld (pv 0) (pv 1) rfl)
        (pss_cons (ps_fld (pv 0) (pv 2) rfl)
        (pss_cons (ps_fld (pv 0) (pv 3) rfl)
        (pss_cons (ps_fld (pv 0) (pv 4) rfl)
        (pss_cons (ps_fld (pv 0) (pv 5) rfl)
        (pss_one (ps_fld (pv 0) (pv 6) rfl))))))), ?_⟩
    refine ⟨_, rfl, _, rfl, x, C, dx, _, rfl, hx, cl, T.path, (by (repeat (first | exact Nat.zero_lt_succ _ | refine put_lt ?_))), ?_⟩
    refine ⟨_, rfl, _, rfl, x, C, dx, _, rfl, upd_same, cl, T.mode, (by (repeat (first | exact Nat.zero_lt_succ _ | refine put_lt ?_))), ?_⟩
    refine ⟨_, rfl, _, rfl, x, C, dx, _, rfl, upd_same, cl, T.deadline, (by (repeat (first | exact Nat.zero_lt_succ _ | refine put_lt ?_))), ?_⟩
    refine ⟨_, rfl, _, rfl, x, C, dx, _, rfl, upd_same, cl, T.parts, (by (repeat (first | exact Nat.zero_lt_succ _ | refine put_lt ?_))), ?_⟩
    refine ⟨_, rfl, _, rfl, x, C, dx, _, rfl, upd_same, cl, T.closed, (by (repeat (first | exact Nat.zero_lt_succ _ | refine put_lt ?_))), ?_⟩
    refine ⟨_, rfl, _, rfl, x, C, dx, _, rfl, upd_same, cl, T.late, (by (repeat (first | exact Nat.zero_lt_succ _ | refine put_lt ?_))), ?_⟩
    refine q _ _ (fun b o hb e => ?_) upd_same ?_
    · simp only [upd_ne hb]
      exact e
    · constructor
      all_goals (simp only [lookup_putF]; repeat (first | (refine (if_neg ?_).trans ?_; · decide +kernel) | exact if_pos rfl | rfl))
end
end LB

set_option maxRecDepth 100000
set_option maxHeartbeats 8000000
namespace LB
open PySem PySem.Spec PyProof.Rows L2 LamX
theorem same_make {H H' : Hp} {x dx : Addr} {u : HO} (nx : H x = none) (nd : H dx = none) (ne : dx ≠ x) (e : ∀ b o, b ≠ x → (upd (upd H dx (.own x)) x u) b = some o → H' b = some o) : Same H H' := fun b o h => by
  have b1 : b ≠ x := fun z => by rw [z, nx] at h; cases h
  have b2 : b ≠ dx := fun z => by rw [z, nd] at h; cases h
  exact e b o b1 (by rw [upd_ne b1, upd_ne b2]; exact h)
/-- a task of a row -/
def TkR (K : PySem.W.Frag) (H : Hp) (C : Addr) (v p : V) (R : Rw) : Prop := ∃ e r m, TkAt K H C v p (.int R.pl) (.str "finished") e (.str R.oc) r m ∧ Six K H R e r m
theorem TkR.ext {K : PySem.W.Frag} {H H' : Hp} {C : Addr} {v p : V} {R : Rw} (x : ExtN H H') (h : TkR K H C v p R) : TkR K H' C v p R := let ⟨e, r, m, t, s⟩ := h; ⟨e, r, m, t.ext x, s.ext x⟩
theorem TkR.bn {K : PySem.W.Frag} {b : Addr} {H H' : Hp} {C : Addr} {v p : V} {R : Rw} (x : BN b H H') (o : OffB b H) (h : TkR K H C v p R) : TkR K H' C v p R := let ⟨e, r, m, t, s⟩ := h; ⟨e, r, m, t.bn x o, s.bn x o⟩
section
variable {P : Program} {w : World} {K : PySem.W.Frag} {mg : Str → Option Value} {base : Heap}
abbrev psT : List Str := ["self", "path", "place", "state", "ended", "outcome", "result", "mark"]
abbrev psS : List Str := ["self", "path", "mode", "deadline", "parts", "closed", "timed_out"]
def spDupT (K : PySem.W.Frag) (C : Addr) : Sp := fun vs H Q _ => ∃ (v p pl st e oc r m : V), vs = [v] ∧ TkAt K H C v p pl st e oc r m ∧ ∀ x H', Same H H' → TkAt K H' C x p pl st e oc r m → Q x H'
theorem scTD : FnScope ["self", "other"] ["self"] (defScope tsDup) := ⟨rfl, rfl, rfl, by decide +kernel, rfl, by decide +kernel, by decide +kernel⟩
theorem ok_tdup {C f fI : Addr} {fd fdI : FuncData} (F : Fun K "duplicate" "Task.duplicate" tsDup f fd) (T : ClsT K C) (GI : FnOk P w K mg base CX0 1 fI fdI psT (spTInit K C)) (MT : Mk K C fI) (mT : mg "Task" = some (.ref C)) (bI : Binds K fdI psT []) :
    FnOk P w K mg base CX0 3 f fd ["self"] (spDupT K C) := by
  refine F.ok scTD (fun vs H Q E h => ?_) (fun cdv A outer s H vs Q E hr h => ?_)
  · obtain ⟨v, p, pl, st, e, oc, r, m, rfl, _⟩ := h
    rfl
  · obtain ⟨v, p, pl, st, e, oc, r, m, rfl, ⟨a, dx, fs, rfl, ha, f⟩, q⟩ := h
    have nd := scTD.nd
    have cl := T.cl
    obtain ⟨tv, ht⟩ := f.answer
    refine ⟨_, (pss_cons (ps_set (i := 1) nd rfl (Or.inl rfl) (pe_make MT GI (hr.mono (by decide)) rfl mT bI .nil pass0 (pa_cons (pe_fld (pv 0) rfl) (pa_cons (pe_fld (pv 0) rfl) (pa_cons (pe_fld (pv 0) rfl) (pa_cons (pe_fld (pv 0) rfl) (pa_cons (pe_fld (pv 0) rfl) (pa_cons (pe_fld (pv 0) rfl) (pa_cons (pe_fld (pv 0) rfl) pa_nil)))))))))
        (pss_cons (ps_fld (pv 1) (pe_fld (pv 0) rfl) rfl)
        (pss_cons (ps_fld (pv 1) (pe_fld (pv 0) rfl) rfl)
        (pss_cons (ps_fld (pv 1) (pe_fld (pv 0) rfl) rfl)
        (pss_cons (ps_fld (pv 1) (pe_fld (pv 0) rfl) rfl)
        (pss_cons (ps_fld (pv 1) (pe_fld (pv 0) rfl) rfl)
        (pss_cons (ps_fld (pv 1) (pe_fld (pv 0) rfl) rfl)
        (pss_one (ps_ret (pv 1)))))))))), ?_⟩
    refine ⟨_, rfl, a, C, dx, _, _, rfl, ha, cl, T.path, f.path, _, rfl, a, C, dx, _, _, rfl, ha, cl, T.place, f.place, _, rfl, a, C, dx, _, _, rfl, ha, cl, T.state, f.state, _, rfl, a, C, dx, _, _, rfl, ha, cl, T.ended, f.ended, _, rfl, a, C, dx, _, _, rfl, ha, cl, T.outcome, f.outcome, _, rfl, a, C, dx, _, _, rfl, ha, cl, T.result, f.result, _, rfl, a, C, dx, _, _, rfl, ha, cl, T.mark, f.mark, fun x dx2 nx nd2 ne => ?_⟩
    refine ⟨x, dx2, _, _, _, _, _, _, _, rfl, upd_same, fun fs2 H2 fr hx2 f2 len => ⟨rfl, ?_⟩⟩
    have S2 : Same H H2 := same_make nx nd2 ne fr
    have ax : a ≠ x := fun z => by rw [z, nx] at ha; cases ha
    have ha2 := S2 _ _ ha
    refine ⟨_, rfl, a, C, dx, _, _, rfl, (by first | exact ha2 | (simp only [upd_ne ax]; exact ha2)), cl, T.step, f.step, _, rfl, x, C, dx2, _, rfl, hx2, cl, T.step, (by (repeat (first | (refine Nat.lt_of_le_of_lt (by assumption) ?_; omega) | refine put_lt ?_))), ?_⟩
    refine ⟨_, rfl, a, C, dx, _, _, rfl, (by first | exact ha2 | (simp only [upd_ne ax]; exact ha2)), cl, T.answer, ht, _, rfl, x, C, dx2, _, rfl, upd_same, cl, T.answer, (by (repeat (first | (refine Nat.lt_of_le_of_lt (by assumption) ?_; omega) | refine put_lt ?_))), ?_⟩
    refine ⟨_, rfl, a, C, dx, _, _, rfl, (by first | exact ha2 | (simp only [upd_ne ax]; exact ha2)), cl, T.wake, f.wake, _, rfl, x, C, dx2, _, rfl, upd_same, cl, T.wake, (by (repeat (first | (refine Nat.lt_of_le_of_lt (by assumption) ?_; omega) | refine put_lt ?_))), ?_⟩
    refine ⟨_, rfl, a, C, dx, _, _, rfl, (by first | exact ha2 | (simp only [upd_ne ax]; exact ha2)), cl, T.scopes, f.scopes, _, rfl, x, C, dx2, _, rfl, upd_same, cl, T.scopes, (by (repeat (first | (refine Nat.lt_of_le_of_lt (by assumption) ?_; omega) | refine put_lt ?_))), ?_⟩
    refine ⟨_, rfl, a, C, dx, _, _, rfl, (by first | exact ha2 | (simp only [upd_ne ax]; exact ha2)), cl, T.started, f.started, _, rfl, x, C, dx2, _, rfl, upd_same, cl, T.started, (by (repeat (first | (refine Nat.lt_of_le_of_lt (by assumption) ?_; omega) | refine put_lt ?_))), ?_⟩
    refine ⟨_, rfl, a, C, dx, _, _, rfl, (by first | exact ha2 | (simp only [upd_ne ax]; exact ha2)), cl, T.delivered, f.delivered, _, rfl, x, C, dx2, _, rfl, upd_same, cl, T.delivered, (by (repeat (first | (refine Nat.lt_of_le_of_lt (by assumption) ?_; omega) | refine put_lt ?_))), ?_⟩
    refine ⟨_, rfl, q _ _ (fun b o h => ?_) ⟨x, dx2, _, rfl, upd_same, ?_⟩⟩
    · have b1 : b ≠ x := fun z => by rw [z, nx] at h; cases h
      simp only [upd_ne b1]
      exact S2 _ _ h
    · constructor
      all_goals first | (refine ⟨tv, ?_⟩; (simp only [lookup_putF]; repeat (first | (refine (if_neg ?_).trans ?_; · decide +kernel) | exact if_pos trivial | exact if_pos rfl)); done) | ((simp only [lookup_putF]; repeat (first | (refine (if_neg ?_).trans ?_; · decide +kernel) | exact if_pos trivial | exact if_pos rfl)); first | done | exact f2.path | exact f2.place | exact f2.state | exact f2.ended | exact f2.outcome | exact f2.result | exact f2.mark | exact f2.nd | exact f2.na)
def spAlive (K : PySem.W.Frag) (C : Addr) : Sp := fun vs H Q _ => ∃ (v p pl st e oc r m : V), vs = [v] ∧ TkAt K H C v p pl st e oc r m ∧ Q (.bl (decide (e = .non))) H
theorem scTA : FnScope ["self"] ["self"] (defScope tsAlive) := ⟨rfl, rfl, rfl, by decide +kernel, rfl, by decide +kernel, by decide +kernel⟩
theorem ok_alive {C f : Addr} {fd : FuncData} (F : Fun K "is_alive" "Task.is_alive" tsAlive f fd) (T : ClsT K C) : FnOk P w K mg base CX0 1 f fd ["self"] (spAlive K C) := by
  refine F.ok scTA (fun vs H Q E h => ?_) (fun cdv A outer s H vs Q E hr h => ?_)
  · obtain ⟨v, p, pl, st, e, oc, r, m, rfl, _⟩ := h
    rfl
  · obtain ⟨v, p, pl, st, e, oc, r, m, rfl, ⟨a, dx, fs, rfl, ha, f⟩, q⟩ := h
    have nd := scTA.nd
    have cl := T.cl
    refine ⟨_, (pss_one (ps_ret (pe_cmpR op_isN (pe_fld (pv 0) rfl) pe_non (nomark _)))), ?_⟩
    exact ⟨_, rfl, a, C, dx, _, _, rfl, ha, cl, T.ended, f.ended, rfl, q⟩
def spDupS (K : PySem.W.Frag) (C : Addr) : Sp := fun vs H Q _ => ∃ (v p mo dl pa c late : V), vs = [v] ∧ ScAt K H C v p mo dl pa c late ∧ ∀ x H', Same H H' → ScAt K H' C x p mo dl pa c late → Q x H'
theorem scSD : FnScope ["self"] ["self"] (defScope csDup) := ⟨rfl, rfl, rfl, by decide +kernel, rfl, by decide +kernel, by decide +kernel⟩
theorem ok_sdup {C f fI : Addr} {fd fdI : FuncData} (F : Fun K "duplicate" "Scope.duplicate" csDup f fd) (T : ClsS K C) (GI : FnOk P w K mg base CX0 1 fI fdI psS (spSInit K C)) (MT : Mk K C fI) (mT : mg "Scope" = some (.ref C)) (bI : Binds K fdI psS []) :
    FnOk P w K mg base CX0 3 f fd ["self"] (spDupS K C) := by
  refine F.ok scSD (fun vs H Q E h => ?_) (fun cdv A outer s H vs Q E hr h => ?_)
  · obtain ⟨v, p, mo, dl, pa, c, late, rfl, _⟩ := h
    rfl
  · obtain ⟨v, p, mo, dl, pa, c, late, rfl, ⟨a, dx, fs, rfl, ha, f⟩, q⟩ := h
    have nd := scSD.nd
    have cl := T.cl
    refine ⟨_, (pss_one (ps_ret (pe_make MT GI (hr.mono (by decide)) rfl mT bI .nil pass0 (pa_cons (pe_fld (pv 0) rfl) (pa_cons (pe_fld (pv 0) rfl) (pa_cons (pe_fld (pv 0) rfl) (pa_cons (pe_fld (pv 0) rfl) (pa_cons (pe_fld (pv 0) rfl) (pa_cons (pe_fld (pv 0) rfl) pa_nil))))))))), ?_⟩
    refine ⟨_, rfl, a, C, dx, _, _, rfl, ha, cl, T.path, f.path, _, rfl, a, C, dx, _, _, rfl, ha, cl, T.mode, f.mode, _, rfl, a, C, dx, _, _, rfl, ha, cl, T.deadline, f.deadline, _, rfl, a, C, dx, _, _, rfl, ha, cl, T.parts, f.parts, _, rfl, a, C, dx, _, _, rfl, ha, cl, T.closed, f.closed, _, rfl, a, C, dx, _, _, rfl, ha, cl, T.late, f.late, fun x dx2 nx nd2 ne => ?_⟩
    exact ⟨x, dx2, _, _, _, _, _, _, rfl, upd_same, fun fs2 H2 fr hx2 f2 => ⟨rfl, q _ _ (same_make nx nd2 ne fr) ⟨x, dx2, fs2, rfl, hx2, f2⟩⟩⟩
def spTask (K : PySem.W.Frag) (C : Addr) : Sp := fun vs H Q _ => ∃ (v p : V) (R : Rw), vs = [v] ∧ RwAt K H v p R ∧ ∀ x H', Same H H' → TkR K H' C x p R → Q x H'
theorem scLT : FnScope ["row"] ["row"] (defScope sTask) := ⟨rfl, rfl, rfl, by decide +kernel, rfl, by decide +kernel, by decide +kernel⟩
theorem ok_ltask {C f fI : Addr} {fd fdI : FuncData} (F : Fun K "_law_task" "_law_task" sTask f fd) (T : ClsT K C) (GI : FnOk P w K mg base CX0 1 fI fdI psT (spTInit K C)) (MT : Mk K C fI) (mT : mg "Task" = some (.ref C)) (bI : Binds K fdI psT []) :
    FnOk P w K mg base CX0 3 f fd ["row"] (spTask K C) := by
  refine F.ok scLT (fun vs H Q E h => ?_) (fun cdv A outer s H vs Q E hr h => ?_)
  · obtain ⟨v, p, R, rfl, _⟩ := h
    rfl
  · obtain ⟨v, p, R, rfl, ⟨a, e, r, m, rfl, ha, sx⟩, q⟩ := h
    have nd := scLT.nd
    refine ⟨_, (pss_one (ps_ret (pe_make MT GI (hr.mono (by decide)) rfl mT bI .nil pass0 (pa_cons (pe_ix ix_list (pv 0) pe_int (fun _ _ => rfl)) (pa_cons (pe_ix ix_list (pv 0) pe_int (fun _ _ => rfl)) (pa_cons (pe_ix ix_list (pv 0) pe_int (fun _ _ => rfl)) (pa_cons (pe_ix ix_list (pv 0) pe_int (fun _ _ => rfl)) (pa_cons (pe_ix ix_list (pv 0) pe_int (fun _ _ => rfl)) (pa_cons (pe_ix ix_list (pv 0) pe_int (fun _ _ => rfl)) (pa_cons (pe_ix ix_list (pv 0) pe_int (fun _ _ => rfl)) pa_nil)))))))))), ?_⟩
    refine ⟨_, rfl, a, _, _, _, rfl, rfl, SqL.of ha, rfl, _, rfl, a, _, _, _, rfl, rfl, SqL.of ha, rfl, _, rfl, a, _, _, _, rfl, rfl, SqL.of ha, rfl, _, rfl, a, _, _, _, rfl, rfl, SqL.of ha, rfl, _, rfl, a, _, _, _, rfl, rfl, SqL.of ha, rfl, _, rfl, a, _, _, _, rfl, rfl, SqL.of ha, rfl, _, rfl, a, _, _, _, rfl, rfl, SqL.of ha, rfl, fun x dx2 nx nd2 ne => ?_⟩
    refine ⟨x, dx2, _, _, _, _, _, _, _, rfl, upd_same, fun fs2 H2 fr hx2 f2 _ => ⟨rfl, ?_⟩⟩
    have S2 : Same H H2 := same_make nx nd2 ne fr
    exact q _ _ S2 ⟨e, r, m, ⟨x, dx2, fs2, rfl, hx2, f2⟩, sx.ext (ExtN.of S2)⟩
def spFields (K : PySem.W.Frag) (C : Addr) : Sp := fun vs H Q _ => ∃ (v p pl st e oc r m : V), vs = [v] ∧ TkAt K H C v p pl st e oc r m ∧ ∀ l H', Same H H' → H' l = some (.lst [p, pl, st, e, oc, r, m]) → Q (.ref l) H'
theorem scLF : FnScope ["task"] ["task"] (defScope sFields) := ⟨rfl, rfl, rfl, by decide +kernel, rfl, by decide +kernel, by decide +kernel⟩
theorem ok_fields {C f : Addr} {fd : FuncData} (F : Fun K "_law_fields" "_law_fields" sFields f fd) (T : ClsT K C) : FnOk P w K mg base CX0 1 f fd ["task"] (spFields K C) := by
  refine F.ok scLF (fun vs H Q E h => ?_) (fun cdv A outer s H vs Q E hr h => ?_)
  · obtain ⟨v, p, pl, st, e, oc, r, m, rfl, _⟩ := h
    rfl
  · obtain ⟨v, p, pl, st, e, oc, r, m, rfl, ⟨a, dx, fs, rfl, ha, f⟩, q⟩ := h
    have nd := scLF.nd
    have cl := T.cl
    refine ⟨_, (pss_one (ps_ret (pe_lst (pa_cons (pe_fld (pv 0) rfl) (pa_cons (pe_fld (pv 0) rfl) (pa_cons (pe_fld (pv 0) rfl) (pa_cons (pe_fld (pv 0) rfl) (pa_cons (pe_fld (pv 0) rfl) (pa_cons (pe_fld (pv 0) rfl) (pa_cons (pe_fld (pv 0) rfl) pa_nil)))))))))), ?_⟩
    exact ⟨_, rfl, a, C, dx, _, _, rfl, ha, cl, T.path, f.path, _, rfl, a, C, dx, _, _, rfl, ha, cl, T.place, f.place, _, rfl, a, C, dx, _, _, rfl, ha, cl, T.state, f.state, _, rfl, a, C, dx, _, _, rfl, ha, cl, T.ended, f.ended, _, rfl, a, C, dx, _, _, rfl, ha, cl, T.outcome, f.outcome, _, rfl, a, C, dx, _, _, rfl, ha, cl, T.result, f.result, _, rfl, a, C, dx, _, _, rfl, ha, cl, T.mark, f.mark, (by show 7 ≤ sizeLine; decide), fun l nl => q l _ (same_new nl) upd_same⟩
def spRest (K : PySem.W.Frag) (C : Addr) : Sp := fun vs H Q _ => ∃ (v p pl st e oc r m : V), vs = [v] ∧ TkAt K H C v p pl st e oc r m ∧ ∀ l H', Same H H' → H' l = some (.lst [.int 0, .int 0, .non, .non, .bl false]) → Q (.ref l) H'
theorem scLR : FnScope ["task"] ["task"] (defScope sRest) := ⟨rfl, rfl, rfl, by decide +kernel, rfl, by decide +kernel, by decide +kernel⟩
theorem ok_rest {C f : Addr} {fd : FuncData} (F : Fun K "_law_rest" "_law_rest" sRest f fd) (T : ClsT K C) : FnOk P w K mg base CX0 1 f fd ["task"] (spRest K C) := by
  refine F.ok scLR (fun vs H Q E h => ?_) (fun cdv A outer s H vs Q E hr h => ?_)
  · obtain ⟨v, p, pl, st, e, oc, r, m, rfl, _⟩ := h
    rfl
  · obtain ⟨v, p, pl, st, e, oc, r, m, rfl, ⟨a, dx, fs, rfl, ha, f⟩, q⟩ := h
    have nd := scLR.nd
    have cl := T.cl
    refine ⟨_, (pss_one (ps_ret (pe_lst (pa_cons (pe_fld (pv 0) rfl) (pa_cons (pe_fld (pv 0) rfl) (pa_cons (pe_fld (pv 0) rfl) (pa_cons (pe_fld (pv 0) rfl) (pa_cons (pe_fld (pv 0) rfl) pa_nil)))))))), ?_⟩
    exact ⟨_, rfl, a, C, dx, _, _, rfl, ha, cl, T.step, f.step, _, rfl, a, C, dx, _, _, rfl, ha, cl, T.scopes, f.scopes, _, rfl, a, C, dx, _, _, rfl, ha, cl, T.wake, f.wake, _, rfl, a, C, dx, _, _, rfl, ha, cl, T.started, f.started, _, rfl, a, C, dx, _, _, rfl, ha, cl, T.delivered, f.delivered, (by show 5 ≤ sizeLine; decide), fun l nl => q l _ (same_new nl) upd_same⟩
def spScopeF (K : PySem.W.Frag) (C : Addr) : Sp := fun vs H Q _ => ∃ (v p mo dl pa c late : V), vs = [v] ∧ ScAt K H C v p mo dl pa c late ∧ ∀ l H', Same H H' → H' l = some (.lst [p, mo, dl, pa, c, late]) → Q (.ref l) H'
theorem scLS : FnScope ["scope"] ["scope"] (defScope sScopeF) := ⟨rfl, rfl, rfl, by decide +kernel, rfl, by decide +kernel, by decide +kernel⟩
theorem ok_scopef {C f : Addr} {fd : FuncData} (F : Fun K "_law_scope_fields" "_law_scope_fields" sScopeF f fd) (T : ClsS K C) : FnOk P w K mg base CX0 1 f fd ["scope"] (spScopeF K C) := by
  refine F.ok scLS (fun vs H Q E h => ?_) (fun cdv A outer s H vs Q E hr h => ?_)
  · obtain ⟨v, p, mo, dl, pa, c, late, rfl, _⟩ := h
    rfl
  · obtain ⟨v, p, mo, dl, pa, c, late, rfl, ⟨a, dx, fs, rfl, ha, f⟩, q⟩ := h
    have nd := scLS.nd
    have cl := T.cl
    refine ⟨_, (pss_one (ps_ret (pe_lst (pa_cons (pe_fld (pv 0) rfl) (pa_cons (pe_fld (pv 0) rfl) (pa_cons (pe_fld (pv 0) rfl) (pa_cons (pe_fld (pv 0) rfl) (pa_cons (pe_fld (pv 0) rfl) (pa_cons (pe_fld (pv 0) rfl) pa_nil))))))))), ?_⟩
    exact ⟨_, rfl, a, C, dx, _, _, rfl, ha, cl, T.path, f.path, _, rfl, a, C, dx, _, _, rfl, ha, cl, T.mode, f.mode, _, rfl, a, C, dx, _, _, rfl, ha, cl, T.deadline, f.deadline, _, rfl, a, C, dx, _, _, rfl, ha, cl, T.parts, f.parts, _, rfl, a, C, dx, _, _, rfl, ha, cl, T.closed, f.closed, _, rfl, a, C, dx, _, _, rfl, ha, cl, T.late, f.late, (by show 6 ≤ sizeLine; decide), fun l nl => q l _ (same_new nl) upd_same⟩
end
end LB

set_option maxRecDepth 100000
set_option maxHeartbeats 8000000
namespace LB
open PySem PySem.Spec PyProof.Rows L2 LamX
theorem pe_fldK {X : Cx} {K : PySem.W.Frag} {e : Expr} {ta : TE} {f : Str} {pos : Pos} (h : X.K = K) (he : PE X e ta) (hb : attributeBase e f X.env (eval e X.env) = eval e X.env) : PE X (.Attribute e f pos) (tFld K ta f) := by
  subst h
  exact pe_fld he hb
structure NamesK (mg : Str → Option Value) : Prop extends Names mg where
  tuple : mg "tuple" = none
  list : mg "list" = none
  min : mg "min" = none
  isi : mg "isinstance" = none
/-! ### modes -/
inductive Mo where
  | wd (s : Str)
  | pool (n : Int)
def Mo.d : Mo → PyData
  | .wd s => .str s
  | .pool n => .tuple [.str "pool", .int n]
def Mo.tup : Mo → Bool
  | .wd _ => false
  | .pool _ => true
def Mo.is (m : Mo) (x : Str) : Bool := PyData.eqv m.d (.str x)
def Mo.Ok (m : Mo) : Prop := SeqAt.shaped m.d = true
theorem ok_pool (n : Int) : (Mo.pool n).Ok := by
  show (PyData.canLayAll0 [.str "pool", .int n] && decide (PyData.depthAll [.str "pool", .int n] + 1 ≤ 64)) = true
  have e : PyData.canLayAll0 [.str "pool", .int n] = (PyData.strOk "pool" && true) := rfl
  have e2 : PyData.depthAll [.str "pool", .int n] = 0 := rfl
  rw [e, e2]
  decide +kernel
def MoAt (K : PySem.W.Frag) (H : Hp) (v : V) : Mo → Prop
  | .wd s => v = .str s
  | .pool n => ∃ a, v = .ref a ∧ SqT K H a [.str "pool", .int n]
theorem MoAt.dp {K : PySem.W.Frag} {H : Hp} {v : V} {m : Mo} (h : MoAt K H v m) : Dp K H v m.d := by
  cases m with
  | wd s => cases h; exact .str _
  | pool n =>
    obtain ⟨a, rfl, q⟩ := h
    exact .tup q (.cons (.str _) (.cons (.int _) .nil))
theorem MoAt.ext {K : PySem.W.Frag} {H H' : Hp} {v : V} {m : Mo} (x : ExtN H H') (h : MoAt K H v m) : MoAt K H' v m := by
  cases m with
  | wd s => exact h
  | pool n => exact let ⟨a, e, q⟩ := h; ⟨a, e, ext_seqT x q⟩
theorem MoAt.bn {K : PySem.W.Frag} {b : Addr} {H H' : Hp} {v : V} {m : Mo} (x : BN b H H') (o : OffB b H) (h : MoAt K H v m) : MoAt K H' v m := by
  cases m with
  | wd s => exact h
  | pool n => exact let ⟨a, e, q⟩ := h; ⟨a, e, x.seqT o q⟩
/-! ### what the answer is -/
def isO (x : Str) (R : Rw) : Bool := decide (V.str R.oc = V.str x)
def someC (Rs : List Rw) : Bool := inV (.str "completed") (Rs.map fun R => V.str R.oc)
def failsOf {α : Type} (f : α → Rw) (m : Mo) (s : Bool) (ts : List α) : List α :=
  if m.is "any" = true ∧ s = true then (ts.filter fun t => isO "failed" (f t)).filter fun t => (f t).mq.isSome else ts.filter fun t => isO "failed" (f t)
def errsOf (m : Mo) (Rs : List Rw) : List Int := (failsOf id m (someC Rs) Rs).flatMap fun R => R.rs
def errV (m : Mo) (late : Bool) (Rs : List Rw) : List V := (if late = true then [.str "deadline exceeded"] else []) ++ (errsOf m Rs).map V.int
theorem failsOf_map (m : Mo) (s : Bool) (ts : List (V × Rw)) : (failsOf (·.2) m s ts).map (·.2) = failsOf id m s (ts.map (·.2)) := by
  unfold failsOf
  split
  · simp [List.filter_map, Function.comp_def]
  · simp [List.filter_map, Function.comp_def]
theorem failsOf_sub {α : Type} {f : α → Rw} {m : Mo} {s : Bool} {ts : List α} {t : α} (h : t ∈ failsOf f m s ts) : t ∈ ts := by
  unfold failsOf at h
  split at h
  · exact (List.mem_filter.mp (List.mem_filter.mp h).1).1
  · exact (List.mem_filter.mp h).1
theorem some_at {K : PySem.W.Frag} {H : Hp} {v : V} {o : Option Ins} (h : At K H v o) : (!decide (v = V.non)) = o.isSome := by
  cases o with
  | none => cases h; rfl
  | some p => obtain ⟨a, rfl, _⟩ := h; rfl
theorem filter_take {α : Type} {p : α → Bool} {l : List α} {i : Nat} {x : α} (h : l[i]? = some x) : (l.take (i + 1)).filter p = (l.take i).filter p ++ if p x = true then [x] else [] := by
  rw [takeS h, List.filter_append]
  congr 1
  by_cases c : p x = true
  · simp [c]
  · simp [c]
theorem map_at2 {α β : Type} {f : α → β} {ns : List α} {j : Nat} {x : β} (h : (ns.map f)[j]? = some x) : ∃ q, ns[j]? = some q ∧ x = f q := by
  rw [List.getElem?_map] at h
  obtain ⟨q, h1, h2⟩ := Option.map_eq_some_iff.mp h
  exact ⟨q, h1, h2.symm⟩
theorem filt_yes {p : V × Rw → Bool} {ts : List (V × Rw)} {j : Nat} {t : V × Rw} (ht : ts[j]? = some t) (c : p t = true) : some (HO.lst ((((ts.take j).filter p).map (·.1)) ++ [t.1])) = some (.lst (((ts.take (j + 1)).filter p).map (·.1))) := by
  rw [filter_take ht, if_pos c, List.map_append]
  rfl
theorem filt_no {p : V × Rw → Bool} {ts : List (V × Rw)} {j : Nat} {t : V × Rw} (ht : ts[j]? = some t) (c : ¬ p t = true) : (ts.take (j + 1)).filter p = (ts.take j).filter p := by
  rw [filter_take ht, if_neg c, List.append_nil]
theorem filt_len {p : V × Rw → Bool} {ts : List (V × Rw)} {j : Nat} (h : ts.length ≤ 50) : (((ts.take j).filter p).map (·.1)).length < sizeLine := by
  refine Nat.lt_of_le_of_lt (m := 50) ?_ (by decide)
  rw [List.length_map]
  have h1 := List.length_filter_le p (ts.take j)
  have h2 := List.length_take_le j ts
  have h3 : (ts.take j).length ≤ ts.length := by rw [List.length_take]; omega
  omega
theorem in_lst {K : PySem.W.Frag} {a : Addr} {ys : List V} {Nx : Hp → Prop} {R : V → Hp → (Hp → Prop) → Prop} {H4 : Hp} (Pv : Nat → Hp → Prop) (h0 : Pv 0 H4) (hl : ∀ j H, j ≤ ys.length → Pv j H → SqL K H a ys)
    (hs : ∀ j y H, ys[j]? = some y → Pv j H → R y H (Pv (j + 1))) (hd : ∀ H, Pv ys.length H → Nx H) :
    ∃ W1 : Nat → Nat → Hp → Prop, (∃ m, W1 0 m H4) ∧ ∀ j k H, W1 j k H → ((Itl K a).stop j H ∧ Nx H) ∨ ((Itl K a).go j H ∧ ∃ Nx1 : Hp → Prop, (∀ H', Nx1 H' → ∃ k', k' < k ∧ W1 (j + 1) k' H') ∧ ∀ x H', (Itl K a).yld j H x H' → R x H' Nx1) := by
  refine ⟨fun i m H => m = ys.length - i ∧ i ≤ ys.length ∧ Pv i H, ⟨ys.length, by simp, Nat.zero_le _, h0⟩, ?_⟩
  rintro i m H ⟨rfl, hi, p⟩
  have q := hl i H hi p
  by_cases hlt : i < ys.length
  · refine .inr ⟨⟨ys, ys[i], q, by simp [hlt]⟩, Pv (i + 1), fun H' p' => ⟨ys.length - (i + 1), by omega, rfl, hlt, p'⟩, fun x H' y => ?_⟩
    obtain ⟨e, y⟩ := y
    subst e
    exact hs i x _ (y ys q) p
  · have e : i = ys.length := by omega
    subst e
    exact .inl ⟨⟨ys, q, Nat.le_refl _⟩, hd H p⟩
theorem flat_le2 {Rs : List Rw} {j i : Nat} {R : Rw} (h : Rs[j]? = some R) : ((((Rs.take j).flatMap fun R => R.rs) ++ R.rs.take i).map V.int).length ≤ (Rs.flatMap fun R => R.rs).length := by
  have e1 : Rs.flatMap (fun R => R.rs) = (Rs.take (j + 1)).flatMap (fun R => R.rs) ++ (Rs.drop (j + 1)).flatMap (fun R => R.rs) := by rw [← List.flatMap_append, List.take_append_drop]
  rw [e1, takeS h, List.flatMap_append]
  simp only [List.length_map, List.length_append, List.length_take, List.flatMap_cons, List.flatMap_nil, List.append_nil]
  omega
theorem flat_len {Rs : List Rw} (h : ∀ R ∈ Rs, R.rs.length ≤ 10) : (Rs.flatMap fun R => R.rs).length ≤ 10 * Rs.length := by
  induction Rs with
  | nil => exact Nat.le_refl _
  | cons R r ih =>
    have := ih fun x hx => h x (List.mem_cons_of_mem _ hx)
    have := h R (List.mem_cons_self ..)
    simp only [List.flatMap_cons, List.length_append, List.length_cons]
    omega
section
variable {P : Program} {w : World} {K : PySem.W.Frag} {mg : Str → Option Value} {base : Heap}
def spErrs (K : PySem.W.Frag) (Ct Cs : Addr) : Sp := fun vs H Q _ => ∃ (sv p mo dl pa c : V) (late : Bool) (m : Mo) (l : Addr) (ts : List (V × Rw)), vs = [sv, .ref l] ∧ ScAt K H Cs sv p mo dl pa c (.bl late) ∧ MoAt K H mo m ∧ m.Ok ∧ SqL K H l (ts.map (·.1)) ∧ ts.length ≤ 50 ∧
  (∀ t ∈ ts, (∃ p, TkR K H Ct t.1 p t.2) ∧ t.2.rs.length ≤ 10) ∧ ∀ a H', Same H H' → SqT K H' a (errV m late (ts.map (·.2))) → Q (.ref a) H'
theorem scEr : FnScope ["scope", "tasks", "failed", "errors", "task", "error"] ["scope", "tasks"] (defScope sErrors) := ⟨rfl, rfl, rfl, by decide +kernel, rfl, by decide +kernel, by decide +kernel⟩
theorem ok_errs {Ct Cs f : Addr} {fd : FuncData} (F : Fun K "scope_errors" "scope_errors" sErrors f fd) (T : ClsT K Ct) (S : ClsS K Cs) (M : NamesK mg) : FnOk P w K mg base CX0 1 f fd ["scope", "tasks"] (spErrs K Ct Cs) := by
  refine F.ok scEr (fun vs H Q E h => ?_) (fun cdv A outer s H vs Q E hr h => ?_)
  · obtain ⟨sv, p, mo, dl, pa, c, late, m, l, ts, rfl, _⟩ := h
    rfl
  · obtain ⟨sv, p, mo, dl, pa, c, late, m, l, ts, rfl, ⟨x, dx, fs, rfl, hx, sf⟩, hm, mok, hl, hlen, hts, q⟩ := h
    have nd := scEr.nd
    have clT := T.cl
    have clS := S.cl
    refine ⟨_, (pss_cons (ps_setLc (i := 2) (own := [("task", 4)]) (g := (gName 4)) rfl nd rfl rfl (sw_true rfl rfl rfl (by decide +kernel)) (pi_list (pv 1)) (blkOk_by (N := ["scope", "tasks", "failed", "errors", "task", "error"]) (sc := (defScope sErrors)) (by decide +kernel)) (fun _ _ _ _ _ => (pg_name (i := 4) nd rfl (Or.inl rfl))) (fun _ _ _ _ _ => (pts_one (pt_cmpR op_eq (pe_fldK (K := K) rfl (pv 4) rfl) pe_str (nomark _)))) (fun _ _ _ _ _ => (pv 4)))
        (C8.pss_cut (ps_if (PW.pt (pw_and (pt_cmpR (op_eqD hr.units) (pe_fld (pv 0) rfl) pe_str (nomark _)) (pw_and1 (pt_cmpR op_in_seq pe_str (pe_lc (own := [("task", 4)]) (g := (gName 4)) rfl nd (pi_list (pv 1)) (blkOk_by (N := ["scope", "tasks", "failed", "errors", "task", "error"]) (sc := (defScope sErrors)) (by decide +kernel)) (fun _ _ _ _ _ => (pg_name (i := 4) nd rfl (Or.inl rfl))) (fun _ _ _ _ _ => pts_nil) (fun _ _ _ _ _ => (pe_fldK (K := K) rfl (pv 4) rfl))) rfl)))) (pss_one (ps_setLc (i := 2) (own := [("task", 4)]) (g := (gName 4)) rfl nd rfl rfl (sw_true rfl rfl rfl (by decide +kernel)) (pi_list (pv 2)) (blkOk_by (N := ["scope", "tasks", "failed", "errors", "task", "error"]) (sc := (defScope sErrors)) (by decide +kernel)) (fun _ _ _ _ _ => (pg_name (i := 4) nd rfl (Or.inl rfl))) (fun _ _ _ _ _ => (pts_one (pt_cmpR op_notN (pe_fldK (K := K) rfl (pv 4) rfl) pe_non (nomark _)))) (fun _ _ _ _ _ => (pv 4)))) pss_nil)
        (pss_cons (ps_set (i := 3) nd rfl (Or.inl rfl) (pe_callTy call_tuple_of (by rfl) M.tuple (by decide +kernel) (pa_cons (pe_lc2 (own := [("task", 4), ("error", 5)]) (vs1 := [5]) (g := (gName 4)) (g1 := (gName 5)) rfl nd (pi_list (pv 2)) (blkOk_by (N := ["scope", "tasks", "failed", "errors", "task", "error"]) (sc := (defScope sErrors)) (by decide +kernel)) (by decide) (fun _ _ _ _ _ => (pg_name (i := 4) nd rfl (Or.inl rfl))) (fun _ _ _ _ _ => pts_nil) (fun _ _ _ _ _ => (pi_tupK (K := K) rfl (pe_fldK (K := K) rfl (pv 4) rfl))) (fun _ _ _ _ _ => (pg_name (i := 5) nd rfl (Or.inl rfl))) (fun _ _ _ _ _ => pts_nil) (fun _ _ _ _ _ => (pv 5))) pa_nil)))
        (pss_one (ps_ret (pe_ifExp (pt_val (pe_fld (pv 0) rfl)) (pe_tup (pa_cons pe_str (StX.pa_star (pv 3) pa_nil))) (pv 3))))))), ?_⟩
    refine ⟨_, rfl, l, rfl, ⟨_, hl⟩, fun D nD => ?_⟩
    refine lc_list (K := K) (xs := ts.map (·.1)) (fun j H' => Same H H' ∧ H' D = some (.lst (((ts.take j).filter fun t => isO "failed" t.2).map (·.1)))) ⟨same_new nD, upd_same⟩ (fun j H' _ h => sqL_same h.1 hl) ?_ ?_
    · rintro j x H1 hx ⟨S1, hD⟩
      obtain ⟨t, ht, rfl⟩ := map_at2 hx
      obtain ⟨⟨pt, e, r, mv, ⟨a, dxt, ft, et, ha, tf⟩, sx⟩, _⟩ := hts t (List.mem_of_getElem? ht)
      refine ⟨rfl, _, rfl, a, Ct, dxt, ft, _, et, S1 _ _ ha, clT, T.outcome, tf.outcome, rfl, _, rfl, ?_⟩
      refine ite2 (fun c => ⟨_, rfl, _, hD, filt_len hlen, same_upd S1 nD, upd_same.trans (filt_yes (p := fun t => isO "failed" t.2) ht c)⟩) (fun c => ⟨S1, ?_⟩)
      rw [filt_no (p := fun t => isO "failed" t.2) ht c]
      exact hD
    · rintro H1 ⟨S1, hD⟩
      rw [List.length_map, List.take_length] at hD
      refine ⟨fun σ H' => ∃ D2, σ = [some (.ref x), some (.ref l), some (.ref D2), none, none, none] ∧ Same H H' ∧ H' D2 = some (.lst ((failsOf (·.2) m (someC (ts.map (·.2))) ts).map (·.1))), ?_, ?_⟩
      · refine ⟨_, rfl, x, Cs, dx, fs, _, rfl, S1 _ _ hx, clS, S.mode, sf.mode, m.d, .str "any", (hm.ext (ExtN.of S1)).dp, .str _, mok, by decide +kernel, _, rfl, ite2 (fun c => ?_) (fun c => ?_)⟩
        · refine ⟨_, rfl, l, rfl, ⟨_, sqL_same S1 hl⟩, fun D3 nD3 => ?_⟩
          refine lc_list (K := K) (xs := ts.map (·.1)) (fun j H' => Same H1 H' ∧ H' D3 = some (.lst ((ts.take j).map fun t => V.str t.2.oc))) ⟨same_new nD3, upd_same⟩ (fun j H' _ h => sqL_same (S1.trans h.1) hl) ?_ ?_
          · rintro j y H2 hy ⟨S2, hD3⟩
            obtain ⟨t, ht, rfl⟩ := map_at2 hy
            obtain ⟨⟨pt, e, r, mv, ⟨a, dxt, ft, et, ha, tf⟩, sx⟩, _⟩ := hts t (List.mem_of_getElem? ht)
            refine ⟨rfl, _, rfl, a, Ct, dxt, ft, _, et, S2 _ _ (S1 _ _ ha), clT, T.outcome, tf.outcome, _, hD3, ?_, same_upd S2 nD3, ?_⟩
            · refine Nat.lt_of_le_of_lt (m := 50) ?_ (by decide)
              rw [List.length_map, List.length_take]
              omega
            · rw [takeS ht, List.map_append]
              exact upd_same
          · rintro H2 ⟨S2, hD3⟩
            rw [List.length_map, List.take_length] at hD3
            have es : (ts.map fun t => V.str t.2.oc) = (ts.map (·.2)).map fun R => V.str R.oc := by rw [List.map_map]; rfl
            rw [es] at hD3
            have D12 : H2 D = some (.lst ((ts.filter fun t => isO "failed" t.2).map (·.1))) := S2 _ _ hD
            refine ⟨D3, _, rfl, .inl (SqL.of hD3), rfl, ?_, _, rfl, ite2 (fun c2 => ?_) (fun c2 => ?_)⟩
            · rw [List.all_eq_true]
              intro y hy
              obtain ⟨R, _, rfl⟩ := List.mem_map.mp hy
              rfl
            · refine ⟨_, rfl, D, rfl, ⟨_, SqL.of D12⟩, fun D4 nD4 => ?_⟩
              have hlen2 : (ts.filter fun t => isO "failed" t.2).length ≤ 50 := Nat.le_trans (List.length_filter_le _ _) hlen
              refine lc_list (K := K) (xs := (ts.filter fun t => isO "failed" t.2).map (·.1)) (fun j H' => Same H2 H' ∧ H' D4 = some (.lst ((((ts.filter fun t => isO "failed" t.2).take j).filter fun t => t.2.mq.isSome).map (·.1)))) ⟨same_new nD4, upd_same⟩ (fun j H' _ h => SqL.of (h.1 _ _ D12)) ?_ ?_
              · rintro j y H3 hy ⟨S3, hD4⟩
                obtain ⟨t, ht, rfl⟩ := map_at2 hy
                obtain ⟨⟨pt, e, r, mv, ⟨a, dxt, ft, et, ha, tf⟩, sx⟩, _⟩ := hts t (List.mem_filter.mp (List.mem_of_getElem? ht)).1
                refine ⟨rfl, _, rfl, a, Ct, dxt, ft, _, et, S3 _ _ (S2 _ _ (S1 _ _ ha)), clT, T.mark, tf.mark, rfl, _, rfl, ?_⟩
                rw [some_at sx.mq]
                refine ite2 (fun c => ⟨_, rfl, _, hD4, filt_len hlen2, same_upd S3 nD4, upd_same.trans (filt_yes (p := fun t => t.2.mq.isSome) ht c)⟩) (fun c => ⟨S3, ?_⟩)
                rw [filt_no (p := fun t => t.2.mq.isSome) ht c]
                exact hD4
              · rintro H3 ⟨S3, hD4⟩
                rw [List.length_map, List.take_length] at hD4
                refine ⟨D4, rfl, (S1.trans S2).trans S3, ?_⟩
                unfold failsOf
                rw [if_pos ⟨c, c2⟩]
                exact hD4
            · refine ⟨D, rfl, S1.trans S2, ?_⟩
              unfold failsOf
              rw [if_neg fun z => c2 z.2]
              exact D12
        · refine ⟨D, rfl, S1, ?_⟩
          unfold failsOf
          rw [if_neg fun z => c z.1]
          exact hD
      · rintro σ H2 ⟨D2, rfl, S2, hD2⟩
        have sub : ∀ t ∈ failsOf (·.2) m (someC (ts.map (·.2))) ts, t ∈ ts := fun t h => failsOf_sub h
        have eFl : errsOf m (ts.map (·.2)) = ((failsOf (·.2) m (someC (ts.map (·.2))) ts).map (·.2)).flatMap fun R => R.rs := by
          rw [failsOf_map]
          rfl
        have fl : (failsOf (·.2) m (someC (ts.map (·.2))) ts).length ≤ 50 := by
          unfold failsOf
          split
          · exact Nat.le_trans (List.length_filter_le _ _) (Nat.le_trans (List.length_filter_le _ _) hlen)
          · exact Nat.le_trans (List.length_filter_le _ _) hlen
        have el : (errsOf m (ts.map (·.2))).length ≤ 500 := by
          rw [eFl]
          refine Nat.le_trans (flat_len fun R hR => ?_) (by rw [List.length_map]; omega)
          obtain ⟨t, ht, rfl⟩ := List.mem_map.mp hR
          exact (hts t (sub t ht)).2
        generalize failsOf (·.2) m (someC (ts.map (·.2))) ts = us at hD2 sub eFl fl
        refine ⟨_, rfl, D2, rfl, ⟨_, SqL.of hD2⟩, fun D5 nD5 => ?_⟩
        refine in_lst (K := K) (ys := us.map (·.1)) (fun j H' => Same H2 H' ∧ H' D5 = some (.lst ((((us.map (·.2)).take j).flatMap fun R => R.rs).map V.int))) ⟨same_new nD5, upd_same⟩ (fun j H' _ h => SqL.of (h.1 _ _ hD2)) ?_ ?_
        · rintro j y H3 hy ⟨S3, hD5⟩
          obtain ⟨t, ht, rfl⟩ := map_at2 hy
          obtain ⟨⟨pt, e, r, mv, ⟨a, dxt, ft, et, ha, tf⟩, sx⟩, _⟩ := hts t (sub t (List.mem_of_getElem? ht))
          obtain ⟨ar, er, sr⟩ := sx.rs
          have sr3 := ext_seqT (ExtN.of ((S2.trans S3))) sr
          have ht2 : (us.map (·.2))[j]? = some t.2 := by rw [List.getElem?_map, ht]; rfl
          refine ⟨rfl, _, rfl, a, Ct, dxt, ft, _, et, S3 _ _ (S2 _ _ ha), clT, T.result, tf.result, ar, er, ⟨_, sr3⟩, ?_⟩
          refine in_tup (K := K) (ys := t.2.rs.map V.int) (fun i H' => Same H2 H' ∧ H' D5 = some (.lst ((((us.map (·.2)).take j).flatMap (fun R => R.rs) ++ t.2.rs.take i).map V.int))) ⟨S3, by rw [List.take_zero, List.append_nil]; exact hD5⟩ (fun i H' _ h => ext_seqT (ExtN.of (S2.trans h.1)) sr) ?_ ?_
          · rintro i z H4 hz ⟨S4, hD5⟩
            obtain ⟨n, hn, rfl⟩ := map_at hz
            refine ⟨rfl, _, rfl, _, hD5, ?_, same_upd S4 nD5, ?_⟩
            · have h1 := flat_le2 (i := i) ht2
              rw [← eFl] at h1
              exact Nat.lt_of_le_of_lt h1 (Nat.lt_of_le_of_lt el (by decide))
            · rw [takeS hn, ← List.append_assoc]
              exact upd_same.trans (congrArg some lst_more)
          · rintro H4 ⟨S4, hD5⟩
            rw [List.length_map, List.take_length] at hD5
            refine ⟨S4, ?_⟩
            rw [takeS ht2, List.flatMap_append]
            simp only [List.flatMap_cons, List.flatMap_nil, List.append_nil]
            exact hD5
        · rintro H3 ⟨S3, hD5⟩
          rw [List.length_map] at hD5
          have e5 : us.length = (us.map (·.2)).length := (List.length_map ..).symm
          rw [e5, List.take_length, ← eFl] at hD5
          refine ⟨D5, _, rfl, .inl ⟨SqL.of hD5, fun u hu => ?_⟩⟩
          have S4 := same_new (o := .tup ((errsOf m (ts.map (·.2))).map V.int)) hu
          have S5 := (S2.trans S3).trans S4
          refine ⟨_, rfl, x, Cs, dx, fs, _, rfl, S5 _ _ hx, clS, S.late, sf.late, _, rfl, ?_⟩
          cases late with
          | true =>
            refine iteT ⟨_, rfl, u, _, rfl, .inl (SqT.of upd_same), ?_, fun v nv => ?_⟩
            · show (V.str "deadline exceeded" :: ((errsOf m (ts.map (·.2))).map V.int ++ [])).length ≤ sizeLine
              rw [List.append_nil, List.length_cons, List.length_map]
              exact Nat.le_trans (Nat.succ_le_succ el) (by decide)
            · refine q v _ (S5.trans (same_new nv)) (SqT.of (upd_same.trans ?_))
              show some (HO.tup (V.str "deadline exceeded" :: ((errsOf m (ts.map (·.2))).map V.int ++ []))) = _
              rw [List.append_nil]
              rfl
          | false =>
            exact iteF ⟨_, rfl, q u _ S5 (SqT.of upd_same)⟩
end
end LB

set_option maxRecDepth 100000
set_option maxHeartbeats 8000000
namespace LB
open PySem PySem.Spec PyProof.Rows L2 LamX
theorem dpAll_snoc {K : PySem.W.Frag} {H : Hp} {v : V} {d : PyData} (hv : Dp K H v d) : ∀ {vs : List V} {ds : List PyData}, DpAll K H vs ds → DpAll K H (vs ++ [v]) (ds ++ [d])
  | [], [], .nil => .cons hv .nil
  | _ :: _, _ :: _, .cons h r => .cons h (dpAll_snoc hv r)
theorem dpAll_len {K : PySem.W.Frag} {H : Hp} : ∀ {vs : List V} {ds : List PyData}, DpAll K H vs ds → vs.length = ds.length
  | [], [], .nil => rfl
  | _ :: _, _ :: _, .cons h r => congrArg Nat.succ (dpAll_len r)
theorem pick {α : Type} {p : α → V → Prop} : ∀ {us : List α}, (∀ t ∈ us, ∃ e, p t e) → ∃ ks : List V, ks.length = us.length ∧ ∀ (i : Nat) (t : α), us[i]? = some t → ∃ y, ks[i]? = some y ∧ p t y
  | [], _ => ⟨[], rfl, fun i t h => by simp at h⟩
  | t :: r, h => by
    obtain ⟨e, he⟩ := h t (List.mem_cons_self ..)
    obtain ⟨ks, hl, hk⟩ := pick (us := r) fun x hx => h x (List.mem_cons_of_mem _ hx)
    refine ⟨e :: ks, congrArg Nat.succ hl, fun i x hx => ?_⟩
    cases i with
    | zero =>
      cases hx
      exact ⟨e, rfl, he⟩
    | succ i => exact hk i x hx
def errD (m : Mo) (late : Bool) (Rs : List Rw) : List PyData := (if late = true then [.str "deadline exceeded"] else []) ++ (errsOf m Rs).map PyData.int
def dRs (R : Rw) : PyData := .tuple (R.rs.map PyData.int)
def bestR (Rs : List Rw) : Option Rw := Rs[bestOf (Rs.map fun R => dIns (some R.en)) (Rs.length - 1)]?
def ansD (m : Mo) (late : Bool) (Rs : List Rw) : PyData :=
  if (errD m late Rs) = [] then
    .tuple [.str "next", if m.is "all" = true ∨ m.tup = true then (if (Rs.filter (isO "completed")).length = Rs.length then .tuple ((Rs.filter (isO "completed")).map dRs) else .none)
      else match bestR (Rs.filter (isO "completed")) with
        | none => .none
        | some R => dRs R]
  else .tuple [.str "throw", .tuple (errD m late Rs)]
theorem err_dp {K : PySem.W.Frag} {H : Hp} {m : Mo} {late : Bool} {Rs : List Rw} : DpAll K H (errV m late Rs) (errD m late Rs) := by
  unfold errV errD
  cases late with
  | true => exact .cons (.str _) dpI
  | false => exact dpI
theorem tyxTup {K : PySem.W.Frag} {H : Hp} {a : Addr} {xs : List V} (h : SqT K H a xs) : TyX K H (.ref a) (.type "tuple") := by
  rcases h with (h | ⟨o, h⟩) | ⟨o, its, n, h, hc, _⟩
  · exact .base (.tup h)
  · exact .fTuple h
  · exact .kTuple h hc
theorem isi_mo {K : PySem.W.Frag} {H : Hp} {v : V} {m : Mo} (h : MoAt K H v m) : ∃ t, TyX K H v t ∧ PySem.W.kitOne K t (.type "tuple") = some m.tup := by
  cases m with
  | wd s => cases h; exact ⟨_, .base (.str s), (kit_ty (by decide +kernel) : PySem.W.kitOne K (.type "str") (.type "tuple") = some false)⟩
  | pool n =>
    obtain ⟨a, rfl, q⟩ := h
    exact ⟨_, tyxTup q, (kit_ty (by decide +kernel) : PySem.W.kitOne K (.type "tuple") (.type "tuple") = some true)⟩
abbrev lamT (Pt : Addr) : List (Addr × Str) := [(Pt, (("scope_answer" : Str) ++ ".<locals>.") ++ "<lambda>")]
section
variable {P : Program} {w : World} {K : PySem.W.Frag} {mg : Str → Option Value} {base : Heap}
def spAns (K : PySem.W.Frag) (Ct Cs Pt : Addr) : Sp := fun vs H Q _ => ∃ (sv p mo dl pa c : V) (late : Bool) (m : Mo) (l : Addr) (ts : List (V × Rw)), vs = [sv, .ref l] ∧ Tabs (lamT Pt) H ∧ ScAt K H Cs sv p mo dl pa c (.bl late) ∧ MoAt K H mo m ∧ m.Ok ∧ SqL K H l (ts.map (·.1)) ∧ ts.length ≤ 50 ∧
  (∀ t ∈ ts, (∃ p, TkR K H Ct t.1 p t.2) ∧ t.2.rs.length ≤ 10) ∧ ∀ v H', ExtN H H' → Tabs (lamT Pt) H' → Dp K H' v (ansD m late (ts.map (·.2))) → Q v H'
theorem scAn : FnScope ["scope", "tasks", "errors", "completed", "values", "task"] ["scope", "tasks"] (defScope sAnswer) := ⟨rfl, rfl, rfl, by decide +kernel, rfl, by decide +kernel, by decide +kernel⟩
theorem ok_ans {Ct Cs f fE cA Pt : Addr} {fdE : FuncData} {oc : Value} {od an : Option Addr} {osl : Array (Option Value)} {kV doc pm ct : Value}
    (lk : K.lookup f = some ⟨oc, od, .func (PySem.W.fnOf "scope_answer" "scope_answer" (defArgs sAnswer) (defBody sAnswer) (defScope sAnswer) .none kV doc pm an (.ref cA) ct), osl⟩) (hc : PySem.W.codeIn K (.ref cA) "scope_answer" = true) (TB : TabB base mg cA Pt)
    (T : ClsT K Ct) (S : ClsS K Cs) (M : NamesK mg) (FE : Fun K "scope_errors" "scope_errors" sErrors fE fdE) (mE : mg "scope_errors" = some (.ref fE)) (bE : Binds K fdE ["scope", "tasks"] []) :
    FnOk P w K mg base CX0 3 f (PySem.W.fnOf "scope_answer" "scope_answer" (defArgs sAnswer) (defBody sAnswer) (defScope sAnswer) .none kV doc pm an (.ref cA) ct) ["scope", "tasks"] (spAns K Ct Cs Pt) := by
  have GE : FnOk P w K mg base CX0 1 fE fdE ["scope", "tasks"] (spErrs K Ct Cs) := ok_errs FE T S M
  have kE := FE.kp
  refine ok_code lk hc scAn (fun vs H Q E h => ?_) (fun A outer s H vs Q E hr h => ?_)
  · obtain ⟨sv, p, mo, dl, pa, c, late, m, l, ts, rfl, _⟩ := h
    rfl
  · obtain ⟨sv, p, mo, dl, pa, c, late, m, l, ts, rfl, hT, ⟨x, dx, fs, rfl, hx, sf⟩, hm, mok, hl, hlen, hts, q⟩ := h
    have nd := scAn.nd
    have clT := T.cl
    have clS := S.cl
    refine ⟨_, (pss_cons (ps_set (i := 2) nd rfl (Or.inl rfl) (pe_call GE (hr.mono (by decide)) rfl mE kE bE .nil pass0 (pa_cons (pv 0) (pa_cons (pv 1) pa_nil))))
        (pss_cons (ps_if (pt_cmpR op_gt (pe_callB call_len_seq (by rfl) M.len PySem.boot_len (pa_cons (pv 2) pa_nil)) pe_int (nomark _)) (pss_one (ps_ret (pe_tup (pa_cons pe_str (pa_cons (pv 2) pa_nil))))) pss_nil)
        (pss_cons (ps_setLc (i := 3) (own := [("task", 5)]) (g := (gName 5)) rfl nd rfl rfl (sw_true rfl rfl rfl (by decide +kernel)) (pi_list (pv 1)) (blkOk_by (N := ["scope", "tasks", "errors", "completed", "values", "task"]) (sc := (defScope sAnswer)) (by decide +kernel)) (fun _ _ _ _ _ => (pg_name (i := 5) nd rfl (Or.inl rfl))) (fun _ _ _ _ _ => (pts_one (pt_cmpR op_eq (pe_fldK (K := K) rfl (pv 5) rfl) pe_str (nomark _)))) (fun _ _ _ _ _ => (pv 5)))
        (pss_cons (ps_if (PW.pt (pw_or (pt_cmpR (op_eqD hr.units) (pe_fld (pv 0) rfl) pe_str (nomark _)) (pw_or1 (pt_val (pe_callB call_isi (by rfl) M.isi PyProof.Rows.boot_isinstance (pa_cons (pe_fld (pv 0) rfl) (pa_cons (pe_bltn (v := .ty "tuple") (by rfl) M.tuple (by decide +kernel) rfl) pa_nil))))))) (pss_cons (ps_set (i := 4) nd rfl (Or.inl rfl) (pe_callTy call_tuple_of (by rfl) M.tuple (by decide +kernel) (pa_cons (pe_lc (own := [("task", 5)]) (g := (gName 5)) rfl nd (pi_list (pv 3)) (blkOk_by (N := ["scope", "tasks", "errors", "completed", "values", "task"]) (sc := (defScope sAnswer)) (by decide +kernel)) (fun _ _ _ _ _ => (pg_name (i := 5) nd rfl (Or.inl rfl))) (fun _ _ _ _ _ => pts_nil) (fun _ _ _ _ _ => (pe_fldK (K := K) rfl (pv 5) rfl))) pa_nil)))
        (pss_one (ps_ret (pe_tup (pa_cons pe_str (pa_cons (pe_ifExp (pt_cmpR op_eq (pe_callB call_len_seq (by rfl) M.len PySem.boot_len (pa_cons (pv 3) pa_nil)) (pe_callB call_len_seq (by rfl) M.len PySem.boot_len (pa_cons (pv 1) pa_nil)) (nomark _)) (pv 4) pe_non) pa_nil)))))) pss_nil)
        (pss_cons (ps_if (pt_cmpR op_eq (pe_callB call_len_seq (by rfl) M.len PySem.boot_len (pa_cons (pv 3) pa_nil)) pe_int (nomark _)) (pss_one (ps_ret (pe_tup (pa_cons pe_str (pa_cons pe_non pa_nil))))) pss_nil)
        (pss_one (ps_ret (pe_tup (pa_cons pe_str (pa_cons (pe_fld (pe_minK (t := "task") (T := lamT Pt) (k := 0) TB rfl (List.mem_cons_self ..) (fun p hp _ => congrArg Prod.snd (List.mem_singleton.mp hp)) hr rfl ⟨rfl, rfl, rfl, by decide +kernel, rfl, by decide +kernel, by decide +kernel⟩ (by rfl) M.min (pv 3) (fun _ _ _ _ _ _ _ _ => pe_fldK (K := K) rfl (pv 0) rfl)) rfl) pa_nil)))))))))), ?_⟩
    refine ⟨_, rfl, _, rfl, _, p, mo, dl, pa, c, late, m, l, ts, rfl, ⟨x, dx, fs, rfl, hx, sf⟩, hm, mok, hl, hlen, hts, fun a H1 S1 sE => ?_⟩
    refine ⟨_, rfl, a, _, rfl, .inr sE, ?_⟩
    have elen : (errV m late (ts.map (·.2))).length = (errD m late (ts.map (·.2))).length := dpAll_len (K := K) (H := H) err_dp
    unfold ansD at q
    refine ⟨_, _, rfl, rfl, _, rfl, ite2 (fun c0 => ?_) (fun c0 => ?_)⟩
    · have c0 : (0 : Int) < ((errV m late (ts.map (·.2))).length : Int) := of_decide_eq_true c0
      rw [if_neg (fun z => by rw [elen, z] at c0; exact absurd c0 (by decide))] at q
      refine ⟨_, rfl, (by show 2 ≤ sizeLine; decide), fun u nu => ?_⟩
      have S2 := S1.trans (same_new (o := .tup [.str "throw", .ref a]) nu)
      exact q _ _ (ExtN.of S2) (hT.ext S2) (.tup (SqT.of upd_same) (.cons (.str _) (.cons (.tup (sqT_same (same_new nu) sE) err_dp) .nil)))
    have c0 : ¬ (0 : Int) < ((errV m late (ts.map (·.2))).length : Int) := fun z => c0 (decide_eq_true z)
    have e0 : errD m late (ts.map (·.2)) = [] := List.eq_nil_of_length_eq_zero (by rw [← elen]; omega)
    rw [if_pos e0] at q
    refine ⟨_, rfl, l, rfl, ⟨_, sqL_same S1 hl⟩, fun D nD => ?_⟩
    refine lc_list (K := K) (xs := ts.map (·.1)) (fun j H' => Same H1 H' ∧ H' D = some (.lst (((ts.take j).filter fun t => isO "completed" t.2).map (·.1)))) ⟨same_new nD, upd_same⟩ (fun j H' _ h => sqL_same (S1.trans h.1) hl) ?_ ?_
    · rintro j y H2 hy ⟨S2, hD⟩
      obtain ⟨t, ht, rfl⟩ := map_at2 hy
      obtain ⟨⟨pt, e, r, mv, ⟨a, dxt, ft, et, ha, tf⟩, sx⟩, _⟩ := hts t (List.mem_of_getElem? ht)
      refine ⟨rfl, _, rfl, a, Ct, dxt, ft, _, et, S2 _ _ (S1 _ _ ha), clT, T.outcome, tf.outcome, rfl, _, rfl, ?_⟩
      refine ite2 (fun c => ⟨_, rfl, _, hD, filt_len hlen, same_upd S2 nD, upd_same.trans (filt_yes (p := fun t => isO "completed" t.2) ht c)⟩) (fun c => ⟨S2, ?_⟩)
      rw [filt_no (p := fun t => isO "completed" t.2) ht c]
      exact hD
    rintro H2 ⟨S2, hD⟩
    rw [List.length_map, List.take_length] at hD
    have S2 := S1.trans S2
    have ef : (ts.map (·.2)).filter (isO "completed") = (ts.filter fun t => isO "completed" t.2).map (·.2) := by simp [List.filter_map, Function.comp_def]
    have el : (ts.map (·.2)).length = ts.length := List.length_map ..
    rw [ef, el] at q
    have sub : ∀ t ∈ ts.filter (fun t => isO "completed" t.2), t ∈ ts := fun t h => (List.mem_filter.mp h).1
    have ul : (ts.filter fun t => isO "completed" t.2).length ≤ 50 := Nat.le_trans (List.length_filter_le _ _) hlen
    have ul2 : (ts.filter fun t => isO "completed" t.2).length ≤ ts.length := List.length_filter_le _ _
    generalize (ts.filter fun t => isO "completed" t.2) = us at hD q sub ul ul2
    clear ef el
    -- all parts, or the first
    have hm2 := hm.ext (ExtN.of S2)
    refine ⟨_, rfl, x, Cs, dx, fs, _, rfl, S2 _ _ hx, clS, S.mode, sf.mode, m.d, .str "all", hm2.dp, .str _, mok, by decide +kernel, _, rfl, ite2 (fun c => ?_) (fun c => ?_)⟩
    rotate_left
    obtain ⟨ty, ht, hk⟩ := isi_mo hm2
    refine ⟨_, rfl, x, Cs, dx, fs, _, rfl, S2 _ _ hx, clS, S.mode, sf.mode, mo, .ty "tuple", _, _, _, rfl, .ty _, ht, hk, _, rfl, ite2 (fun c2 => ?_) (fun c2 => ?_)⟩
    rotate_left
    · have nor : ¬ (m.is "all" = true ∨ m.tup = true) := fun z => z.elim c c2
      rw [if_neg nor] at q
      refine ⟨_, rfl, D, _, rfl, .inl (SqL.of hD), rfl, _, rfl, ite_int (fun e => ?_) (fun e => ?_)⟩
      · rw [List.length_map] at e
        have eu : us = [] := List.eq_nil_of_length_eq_zero (by omega)
        subst eu
        refine ⟨(by show 2 ≤ sizeLine; decide), fun u nu => ?_⟩
        have S3 := S2.trans (same_new (o := .tup [.str "next", .non]) nu)
        exact q _ _ (ExtN.of S3) (hT.ext S3) (.tup (SqT.of upd_same) (.cons (.str _) (.cons .non .nil)))
      · rw [List.length_map] at e
        have pos : 0 < us.length := by omega
        obtain ⟨ks, kl, hk⟩ := pick (us := us) (p := fun t v => At K H2 v (some t.2.en) ∧ ∃ a dxt ft p pl st oc r mv, t.1 = V.ref a ∧ H2 a = some (.ins Ct dxt ft) ∧ TkF ft p pl st v oc r mv ∧ ∃ ar, r = .ref ar ∧ SqT K H2 ar (t.2.rs.map V.int)) fun t ht => by
          obtain ⟨⟨pt, e, r, mv, ⟨a, dxt, ft, et, ha, tf⟩, sx⟩, _⟩ := hts t (sub t ht)
          have sx := sx.ext (ExtN.of S2)
          exact ⟨e, sx.en, a, dxt, ft, _, _, _, _, r, mv, et, S2 _ _ ha, tf, sx.rs⟩
        have dmem : ∀ d ∈ us.map (fun t => dIns (some t.2.en)), ∃ i : Ins, d = .tuple [.int i.1, .int i.2] := fun d hd => by
          obtain ⟨t, _, rfl⟩ := List.mem_map.mp hd
          exact ⟨_, rfl⟩
        refine ⟨_, rfl, hT.ext S2, D, us.map (·.1), ks, us.map (fun t => dIns (some t.2.en)), rfl, hD, by rw [List.length_map]; exact pos, by rw [kl, List.length_map], by rw [List.length_map, List.length_map], ?_, ?_, ?_, fun H3 eN T3 => ⟨?_, ?_, ?_⟩⟩
        · rintro d hd e he
          obtain ⟨i, rfl⟩ := dmem d hd
          obtain ⟨i2, rfl⟩ := dmem e he
          simp [PySem.W.alike, PySem.W.alikeAll]
        · rintro d hd
          obtain ⟨i, rfl⟩ := dmem d hd
          exact fun z => by cases z
        · rintro d hd
          obtain ⟨i, rfl⟩ := dmem d hd
          exact (show (1 : Nat) ≤ 50 by decide)
        · intro od i y d hy hd
          obtain ⟨t, ht, rfl⟩ := map_at2 hd
          obtain ⟨y2, hy2, ya, _⟩ := hk i t ht
          rw [hy] at hy2
          cases hy2
          obtain ⟨ay, rfl, sy⟩ := ext_at eN ya
          exact .tup ((Tp.lst (eN D _ hD (fun ps z => by cases z))).seq sy) (.cons (.int _) (.cons (.int _) .nil))
        · intro od i xv y hx hy
          obtain ⟨t, ht, rfl⟩ := map_at2 hx
          obtain ⟨y2, hy2, _, a, dxt, ft, p, pl, st, oc, r, mv, et, ha, tf, _⟩ := hk i t ht
          rw [hy] at hy2
          cases hy2
          have aD : a ≠ D := ne_of ha hD (by intro z; cases z)
          exact ⟨_, rfl, a, Ct, dxt, ft, _, et, by rw [upd_ne aD]; exact eN a _ ha (fun ps z => by cases z), clT, T.ended, tf.ended, rfl, rfl⟩
        · intro xv hx
          obtain ⟨t, ht, rfl⟩ := map_at2 hx
          rw [List.length_map] at ht
          obtain ⟨y2, hy2, _, a, dxt, ft, p, pl, st, oc, r, mv, et, ha, tf, ar, rfl, sr⟩ := hk _ t ht
          have eb : bestR (us.map (·.2)) = some t.2 := by
            unfold bestR
            rw [List.length_map, List.map_map, List.getElem?_map]
            have ht' : us[bestOf (us.map ((fun R => dIns (some R.en)) ∘ fun x => x.2)) (us.length - 1)]? = some t := ht
            rw [ht']
            rfl
          rw [eb] at q
          refine ⟨a, Ct, dxt, ft, _, et, eN a _ ha (fun ps z => by cases z), clT, T.result, tf.result, (by show 2 ≤ sizeLine; decide), fun u nu => ?_⟩
          have S4 := same_new (o := .tup [.str "next", .ref ar]) nu
          refine q _ _ ((ExtN.of S2).trans (eN.trans (ExtN.of S4))) (T3.ext S4) (.tup (SqT.of upd_same) (.cons (.str _) (.cons ?_ .nil)))
          exact .tup (sqT_same S4 (ext_seqT eN sr)) dpI
    all_goals (
      have hor : m.is "all" = true ∨ m.tup = true := by first | exact .inl c | exact .inr c2
      rw [if_pos hor] at q
      refine ⟨_, rfl, D, rfl, ⟨_, SqL.of hD⟩, fun D3 nD3 => ?_⟩
      refine lc_list (K := K) (xs := us.map (·.1)) (fun j H' => Same H2 H' ∧ ∃ rv, H' D3 = some (.lst rv) ∧ DpAll K H2 rv ((us.take j).map fun t => dRs t.2)) ⟨same_new nD3, [], upd_same, .nil⟩ (fun j H' _ h => SqL.of (h.1 _ _ hD)) ?_ ?_
      · rintro j y H3 hy ⟨S3, rv, hD3, dp3⟩
        obtain ⟨t, ht, rfl⟩ := map_at2 hy
        obtain ⟨⟨pt, e, r, mv, ⟨a, dxt, ft, et, ha, tf⟩, sx⟩, _⟩ := hts t (sub t (List.mem_of_getElem? ht))
        obtain ⟨ar, er, sr⟩ := (sx.ext (ExtN.of S2)).rs
        refine ⟨rfl, _, rfl, a, Ct, dxt, ft, _, et, S3 _ _ (S2 _ _ ha), clT, T.result, tf.result, rv, hD3, ?_, same_upd S3 nD3, rv ++ [r], upd_same, ?_⟩
        · rw [dpAll_len dp3, List.length_map, List.length_take]
          exact Nat.lt_of_le_of_lt (m := 50) (by omega) (by decide)
        · rw [takeS ht, List.map_append]
          refine dpAll_snoc ?_ dp3
          rw [er]
          exact .tup sr dpI
      · rintro H3 ⟨S3, rv, hD3, dp3⟩
        rw [List.length_map, List.take_length] at dp3
        refine ⟨D3, _, rfl, .inl ⟨SqL.of hD3, fun u nu => ?_⟩⟩
        have S4 := S3.trans (same_new (o := .tup rv) nu)
        refine ⟨_, rfl, D, _, rfl, .inl (SqL.of (S4 _ _ hD)), _, rfl, l, _, rfl, .inl (sqL_same (S2.trans S4) hl), rfl, _, rfl, ite_int (fun e => ?_) (fun e => ?_)⟩
        · rw [List.length_map, List.length_map] at e
          rw [List.length_map, if_pos (by omega)] at q
          refine ⟨_, rfl, (by show 2 ≤ sizeLine; decide), fun u2 nu2 => ?_⟩
          have S5 := same_new (o := .tup [.str "next", .ref u]) nu2
          have S6 := (S2.trans S4).trans S5
          refine q _ _ (ExtN.of S6) (hT.ext S6) (.tup (SqT.of upd_same) (.cons (.str _) (.cons (.tup (sqT_same S5 (SqT.of upd_same)) ?_) .nil)))
          rw [List.map_map]
          exact dpAll_same (S4.trans S5) dp3
        · rw [List.length_map, List.length_map] at e
          rw [List.length_map, if_neg (by omega)] at q
          refine ⟨(by show 2 ≤ sizeLine; decide), fun u2 nu2 => ?_⟩
          have S5 := same_new (o := .tup [.str "next", .non]) nu2
          have S6 := (S2.trans S4).trans S5
          exact q _ _ (ExtN.of S6) (hT.ext S6) (.tup (SqT.of upd_same) (.cons (.str _) (.cons .non .nil))))
end
end LB

set_option maxRecDepth 100000
set_option maxHeartbeats 8000000
namespace LB
open PySem PySem.Spec PyProof.Rows L2 LamX
/-! ### rows as data -/
structure RwB (R : Rw) : Prop where
  oc : R.oc = "completed" ∨ R.oc = "failed" ∨ R.oc = "cancelled"
  len : R.rs.length ≤ 2
  rs : ∀ n ∈ R.rs, Sm n
  pl : Sm R.pl
  en : Sm R.en.1 ∧ Sm R.en.2
  mq : ∀ p, R.mq = some p → Sm p.1 ∧ Sm p.2
def dRow (k : Int) (R : Rw) : PyData := .list [.tuple [.int 0, .int 1, .int k], .int R.pl, .str "finished", dIns (some R.en), .str R.oc, dRs R, dIns R.mq]
/-- row k: its path is (0, 1, k) -/
def RwK (K : PySem.W.Frag) (H : Hp) (k : Int) (t : V × Rw) : Prop := ∃ pa, SqT K H pa [.int 0, .int 1, .int k] ∧ RwAt K H t.1 (.ref pa) t.2
theorem RwK.bn {K : PySem.W.Frag} {b : Addr} {H H' : Hp} {k : Int} {t : V × Rw} (x : BN b H H') (o : OffB b H) (nb : t.1 ≠ .ref b) (h : RwK K H k t) : RwK K H' k t := let ⟨pa, s, r⟩ := h; ⟨pa, x.seqT o s, r.bn x o nb⟩
theorem RwK.ext {K : PySem.W.Frag} {H H' : Hp} {k : Int} {t : V × Rw} (x : ExtN H H') (h : RwK K H k t) : RwK K H' k t := let ⟨pa, s, r⟩ := h; ⟨pa, ext_seqT x s, r.ext x⟩
theorem six_dp {K : PySem.W.Frag} {H : Hp} {R : Rw} {e r m : V} (s : Six K H R e r m) : Dp K H e (dIns (some R.en)) ∧ Dp K H r (dRs R) ∧ Dp K H m (dIns R.mq) := by
  obtain ⟨ar, er, sr⟩ := s.rs
  exact ⟨s.en.dp, by rw [er]; exact .tup sr dpI, s.mq.dp⟩
theorem row_dp {K : PySem.W.Frag} {H : Hp} {a : Addr} {k : Int} {pa : Addr} {R : Rw} {e r m : V} (sp : SqT K H pa [.int 0, .int 1, .int k]) (s : Six K H R e r m) (h : SqL K H a [.ref pa, .int R.pl, .str "finished", e, .str R.oc, r, m]) : Dp K H (.ref a) (dRow k R) := by
  obtain ⟨d1, d2, d3⟩ := six_dp s
  exact .lst h (.cons (.tup sp (.cons (.int _) (.cons (.int _) (.cons (.int _) .nil)))) (.cons (.int _) (.cons (.str _) (.cons d1 (.cons (.str _) (.cons d2 (.cons d3 .nil)))))))
theorem RwK.dp {K : PySem.W.Frag} {H : Hp} {k : Int} {t : V × Rw} (h : RwK K H k t) : Dp K H t.1 (dRow k t.2) := by
  obtain ⟨pa, sp, a, e, r, m, ea, ha, s⟩ := h
  rw [ea]
  exact row_dp sp s (SqL.of ha)
theorem lay_intsK : ∀ (ns : List Int), PyData.canLayAll0 (ns.map PyData.int) = true
  | [] => rfl
  | n :: r => by
    show (true && PyData.canLayAll0 (r.map PyData.int)) = true
    rw [lay_intsK r] <;> rfl
theorem deep_intsK : ∀ (ns : List Int), PyData.depthAll (ns.map PyData.int) = 0
  | [] => rfl
  | n :: r => by
    show max 0 (PyData.depthAll (r.map PyData.int)) = 0
    rw [deep_intsK r] <;> rfl
theorem lay_dIns (o : Option Ins) : (dIns o).canLay0 = true ∧ (dIns o).depth ≤ 1 := by
  cases o with
  | none => exact ⟨rfl, Nat.zero_le _⟩
  | some p => exact ⟨rfl, Nat.le_refl _⟩
theorem lay_row {k : Int} {R : Rw} (b : RwB R) : (dRow k R).canLay0 = true ∧ (dRow k R).depth ≤ 3 := by
  obtain ⟨l1, l2⟩ := lay_dIns R.mq
  have so : PyData.strOk R.oc = true := by
    rcases b.oc with e | e | e <;> (rw [e]; decide +kernel)
  constructor
  · show (true && (true && (PyData.strOk "finished" && (true && (PyData.strOk R.oc && (PyData.canLayAll0 (R.rs.map PyData.int) && ((dIns R.mq).canLay0 && true))))))) = true
    rw [so, lay_intsK, l1]
    decide +kernel
  · show max _ (max 0 (max 0 (max _ (max 0 (max (PyData.depthAll (R.rs.map PyData.int) + 1) (max (dIns R.mq).depth 0)))))) + 1 ≤ 3
    rw [deep_intsK]
    have e1 : PyData.depth (.tuple [.int 0, .int 1, .int k]) = 1 := rfl
    have e2 : PyData.depth (dIns (some R.en)) = 1 := rfl
    rw [e1, e2]
    omega
theorem lay_rows : ∀ {rs : List (Int × Rw)}, (∀ t ∈ rs, RwB t.2) → PyData.canLayAll0 (rs.map fun t => dRow t.1 t.2) = true ∧ PyData.depthAll (rs.map fun t => dRow t.1 t.2) ≤ 3
  | [], _ => ⟨rfl, Nat.zero_le _⟩
  | t :: r, h => by
    obtain ⟨h1, h2⟩ := lay_rows (rs := r) fun x hx => h x (List.mem_cons_of_mem _ hx)
    obtain ⟨h3, h4⟩ := lay_row (k := t.1) (h t (List.mem_cons_self ..))
    constructor
    · show ((dRow t.1 t.2).canLay0 && PyData.canLayAll0 (r.map fun t => dRow t.1 t.2)) = true
      rw [h1, h3] <;> rfl
    · show max (dRow t.1 t.2).depth (PyData.depthAll (r.map fun t => dRow t.1 t.2)) ≤ 3
      omega
theorem shaped_rows {rs : List (Int × Rw)} (h : ∀ t ∈ rs, RwB t.2) : SeqAt.shaped (.list (rs.map fun t => dRow t.1 t.2)) = true := by
  obtain ⟨h1, h2⟩ := lay_rows h
  show (PyData.canLayAll0 _ && decide (PyData.depthAll _ + 1 ≤ 64)) = true
  rw [h1, decide_eq_true (by omega : PyData.depthAll (rs.map fun t => dRow t.1 t.2) + 1 ≤ 64)] <;> rfl
theorem eqv_nilL (ds : List PyData) : PyData.eqv (.list ds) (.list []) = ds.isEmpty := by cases ds <;> rfl
theorem eqv_nilT (ds : List PyData) : PyData.eqv (.tuple ds) (.tuple []) = ds.isEmpty := by cases ds <;> rfl
/-! ### the law's own reading -/
theorem isO_eq {x : Str} {R : Rw} : isO x R = (R.oc == x) := by
  unfold isO
  by_cases e : R.oc = x
  · rw [e, decide_eq_true rfl]; exact (beq_self_eq_true x).symm
  · rw [decide_eq_false (fun z => e (V.str.inj z))]; exact (beq_eq_false_iff_ne.mpr e).symm
theorem someC_eq : ∀ (Rs : List Rw), someC Rs = !(Rs.filter (isO "completed")).isEmpty
  | [] => rfl
  | R :: r => by
    have ih := someC_eq r
    show ((R.oc == "completed") || someC r) = _
    rw [ih, ← isO_eq]
    by_cases c : isO "completed" R = true
    · rw [List.filter_cons_of_pos c, c]; rfl
    · rw [List.filter_cons_of_neg c, (Bool.eq_false_iff.mpr c : isO "completed" R = false)]; rfl
def condR (m : Mo) (s : Bool) (R : Rw) : Bool := isO "failed" R && (!m.is "any" || !s || R.mq.isSome)
theorem cond_fails (m : Mo) (s : Bool) (Rs : List Rw) : failsOf id m s Rs = Rs.filter (condR m s) := by
  unfold failsOf condR
  cases h1 : m.is "any" <;> cases h2 : s <;> simp [List.filter_filter, Bool.and_comm]
end LB

set_option maxRecDepth 100000
set_option maxHeartbeats 8000000
namespace LB
open PySem PySem.Spec PyProof.Rows L2 LamX
/-- the law's rows at l -/
def RowsAt (K : PySem.W.Frag) (H : Hp) (l : Addr) (ts : List (V × Rw)) : Prop := SqL K H l (ts.map (·.1)) ∧ ts.length ≤ 50 ∧ ∀ t ∈ ts, RwB t.2 ∧ ∃ k, RwK K H k t
theorem SqL.ext {K : PySem.W.Frag} {H H' : Hp} {a : Addr} {xs : List V} (x : ExtN H H') (h : SqL K H a xs) : SqL K H' a xs := by
  rcases h with (h | ⟨u, h⟩) | h
  · exact .inl (.inl (x a _ h (fun ps z => by cases z)))
  · exact .inl (.inr ⟨u, x a _ h (fun ps z => by cases z)⟩)
  · exact .inr h
theorem RowsAt.ext {K : PySem.W.Frag} {H H' : Hp} {l : Addr} {ts : List (V × Rw)} (x : ExtN H H') (h : RowsAt K H l ts) : RowsAt K H' l ts := ⟨SqL.ext x h.1, h.2.1, fun t ht => let ⟨b, k, r⟩ := h.2.2 t ht; ⟨b, k, r.ext x⟩⟩
theorem RowsAt.same {K : PySem.W.Frag} {H H' : Hp} {l : Addr} {ts : List (V × Rw)} (x : Same H H') (h : RowsAt K H l ts) : RowsAt K H' l ts := h.ext (ExtN.of x)
/-- some rows of it, with their numbers, as data -/
theorem rows_dp {K : PySem.W.Frag} {H : Hp} : ∀ {us : List (V × Rw)}, (∀ t ∈ us, RwB t.2 ∧ ∃ k, RwK K H k t) → ∃ rs : List (Int × Rw), rs.length = us.length ∧ (∀ t ∈ rs, RwB t.2) ∧ DpAll K H (us.map (·.1)) (rs.map fun t : Int × Rw => dRow t.1 t.2)
  | [], _ => ⟨[], rfl, fun t h => (by simp at h), .nil⟩
  | t :: r, h => by
    obtain ⟨rs, l, b, d⟩ := rows_dp (us := r) fun x hx => h x (List.mem_cons_of_mem _ hx)
    obtain ⟨hb, k, hk⟩ := h t (List.mem_cons_self ..)
    refine ⟨(k, t.2) :: rs, congrArg Nat.succ l, fun x hx => ?_, .cons hk.dp d⟩
    rcases List.mem_cons.mp hx with e | hx
    · rw [e]; exact hb
    · exact b x hx
theorem empty_eq {α β : Type} {l : List α} {r : List β} (h : l.length = r.length) : l.isEmpty = r.isEmpty := by
  cases l <;> cases r <;> first | rfl | (simp at h)
section
variable {P : Program} {w : World} {K : PySem.W.Frag} {mg : Str → Option Value} {base : Heap}
def spErrsDue (K : PySem.W.Frag) : Sp := fun vs H Q _ => ∃ (mv : V) (late : Bool) (m : Mo) (l : Addr) (ts : List (V × Rw)), vs = [mv, .bl late, .ref l] ∧ MoAt K H mv m ∧ m.Ok ∧ RowsAt K H l ts ∧ ∀ a H', Same H H' → SqT K H' a (errV m late (ts.map (·.2))) → Q (.ref a) H'
theorem scED : FnScope ["mode", "late", "rows", "row", "some", "errors"] ["mode", "late", "rows"] (defScope sErrorsDue) := ⟨rfl, rfl, rfl, by decide +kernel, rfl, by decide +kernel, by decide +kernel⟩
theorem ok_errsdue {f : Addr} {fd : FuncData} (F : Fun K "_law_errors_due" "_law_errors_due" sErrorsDue f fd) : FnOk P w K mg base CX0 1 f fd ["mode", "late", "rows"] (spErrsDue K) := by
  refine F.ok scED (fun vs H Q E h => ?_) (fun cdv A outer s H vs Q E hr h => ?_)
  · obtain ⟨mv, late, m, l, ts, rfl, _⟩ := h
    rfl
  · obtain ⟨mv, late, m, l, ts, rfl, hm, mok, hR, q⟩ := h
    have nd := scED.nd
    obtain ⟨hl, hlen, hts⟩ := id hR
    refine ⟨_, (pss_cons (ps_set (i := 4) nd rfl (Or.inl rfl) (pe_cmpR (op_neD hr.units) (pe_lc (own := [("row", 3)]) (g := (gName 3)) rfl nd (pi_list (pv 2)) (blkOk_by (N := ["mode", "late", "rows", "row", "some", "errors"]) (sc := (defScope sErrorsDue)) (by decide +kernel)) (fun _ _ _ _ _ => (pg_name (i := 3) nd rfl (Or.inl rfl))) (fun _ _ _ _ _ => (pts_one (pt_cmpR op_eq (pe_ix (ix_listK (K := K) rfl) (pv 3) pe_int (fun _ _ => rfl)) pe_str (nomark _)))) (fun _ _ _ _ _ => (pv 3))) (pe_lst pa_nil) (nomark _)))
        (pss_cons (ps_set (i := 5) nd rfl (Or.inl rfl) (pe_tup pa_nil))
        (C8.pss_cut (ps_if (pt_val (pv 1)) (pss_one (ps_set (i := 5) nd rfl (Or.inl rfl) (pe_tup (pa_cons pe_str pa_nil)))) pss_nil)
        (pss_cons (ps_for PassesOwn.never rfl (pi_list (pv 2)) (pg_name (i := 3) nd rfl (Or.inl rfl)) (pss_one (ps_if (PW.pt (pw_and (pt_cmpR op_eq (pe_ix (ix_listK (K := K) rfl) (pv 3) pe_int (fun _ _ => rfl)) pe_str (nomark _)) (pw_and1 (PW.pt (pw_or (pt_cmpR (op_neD hr.units) (pv 0) pe_str (nomark _)) (pw_or (pt_not (pt_val (pv 4))) (pw_or1 (pt_cmpR op_notN (pe_ix ix_list (pv 3) pe_int (fun _ _ => rfl)) pe_non (nomark _))))))))) (pss_one (ps_set (i := 5) nd rfl (Or.inl rfl) (pe_op op_catA (pv 5) (pe_ix ix_list (pv 3) pe_int (fun _ _ => rfl))))) pss_nil)))
        (pss_one (ps_ret (pv 5))))))), ?_⟩
    refine ⟨_, rfl, l, rfl, ⟨_, hl⟩, fun D nD => ?_⟩
    refine lc_list (K := K) (xs := ts.map (·.1)) (fun j H' => Same H H' ∧ H' D = some (.lst (((ts.take j).filter fun t => isO "completed" t.2).map (·.1)))) ⟨same_new nD, upd_same⟩ (fun j H' _ h => sqL_same h.1 hl) ?_ ?_
    · rintro j y H1 hy ⟨S1, hD⟩
      obtain ⟨t, ht, rfl⟩ := map_at2 hy
      obtain ⟨_, k, pa, _, a, e, r, mw, et, ha, sx⟩ := hts t (List.mem_of_getElem? ht)
      refine ⟨rfl, _, rfl, a, _, _, _, et, rfl, SqL.of (S1 _ _ ha), rfl, rfl, _, rfl, ?_⟩
      refine ite2 (fun c => ⟨_, rfl, _, hD, filt_len hlen, same_upd S1 nD, upd_same.trans (filt_yes (p := fun t => isO "completed" t.2) ht c)⟩) (fun c => ⟨S1, ?_⟩)
      rw [filt_no (p := fun t => isO "completed" t.2) ht c]
      exact hD
    rintro H1 ⟨S1, hD⟩
    rw [List.length_map, List.take_length] at hD
    have fu : ∀ t ∈ ts.filter (fun t => isO "completed" t.2), RwB t.2 ∧ ∃ k, RwK K H1 k t := fun t ht => let ⟨b, k, r⟩ := hts t (List.mem_filter.mp ht).1; ⟨b, k, r.ext (ExtN.of S1)⟩
    obtain ⟨rs, lr, br, dr⟩ := rows_dp fu
    refine ⟨(by show 0 ≤ sizeLine; decide), fun e ne => ?_⟩
    have S2 := S1.trans (same_new (o := .lst []) ne)
    have D1 : Dp K (upd H1 e (.lst [])) (.ref D) (.list (rs.map fun t : Int × Rw => dRow t.1 t.2)) := .lst (SqL.of (same_new ne _ _ hD)) (dpAll_same (same_new ne) dr)
    refine ⟨.list (rs.map fun t : Int × Rw => dRow t.1 t.2), .list [], D1, .lst (SqL.of upd_same) .nil, shaped_rows br, by decide +kernel, ?_⟩
    have es : (!PyData.eqv (.list (rs.map fun t : Int × Rw => dRow t.1 t.2)) (.list [])) = someC (ts.map (·.2)) := by
      rw [eqv_nilL, someC_eq]
      congr 1
      have ef : (ts.map (·.2)).filter (isO "completed") = (ts.filter fun t => isO "completed" t.2).map (·.2) := by simp [List.filter_map, Function.comp_def]
      rw [ef]
      exact empty_eq (by rw [List.length_map, List.length_map, lr])
    rw [es]
    generalize upd H1 e (.lst []) = H2 at S2
    clear hD fu lr br dr es S1 nD ne
    refine ⟨(by show 0 ≤ sizeLine; decide), fun u nu => ?_⟩
    have S3 := S2.trans (same_new (o := .tup []) nu)
    refine ⟨fun σ H' => ∃ ea, σ = [some mv, some (.bl late), some (.ref l), none, some (.bl (someC (ts.map (·.2)))), some (.ref ea)] ∧ Same H H' ∧ SqT K H' ea (if late = true then [.str "deadline exceeded"] else []), ?_, ?_⟩
    · refine ⟨_, rfl, _, rfl, ?_⟩
      cases late with
      | true =>
        refine iteT ⟨(by show 1 ≤ sizeLine; decide), fun v nv => ?_⟩
        exact ⟨v, rfl, S3.trans (same_new nv), SqT.of upd_same⟩
      | false => exact iteF ⟨u, rfl, S3, SqT.of upd_same⟩
    clear S3 nu S2
    unfold errV at q
    have hp : (if late = true then [V.str "deadline exceeded"] else []).length ≤ 1 := by cases late <;> decide
    generalize (if late = true then [V.str "deadline exceeded"] else []) = pre at *
    rintro σ H3 ⟨ea, rfl, S3, hea⟩
    have el : ∀ j, (((((ts.map (·.2)).take j).filter (condR m (someC (ts.map (·.2))))).flatMap fun R => R.rs).map V.int).length ≤ 500 := fun j => by
      rw [List.length_map]
      refine Nat.le_trans (flat_len fun R hR => ?_) ?_
      · obtain ⟨t, ht, e⟩ := List.mem_map.mp (List.mem_of_mem_take (List.mem_filter.mp hR).1)
        have := (hts t ht).1.len
        rw [← e]
        omega
      · have h1 := List.length_filter_le (condR m (someC (ts.map (·.2)))) ((ts.map (·.2)).take j)
        have h2 : ((ts.map (·.2)).take j).length ≤ ts.length := by rw [List.length_take, List.length_map]; omega
        omega
    refine ⟨_, rfl, l, rfl, ⟨_, sqL_same S3 hl⟩, ?_⟩
    refine for_list (K := K) (xs := ts.map (·.1)) (fun j σ H' => ∃ ea rv, σ = [some mv, some (.bl late), some (.ref l), rv, some (.bl (someC (ts.map (·.2)))), some (.ref ea)] ∧ Same H H' ∧
        SqT K H' ea (pre ++ ((((ts.map (·.2)).take j).filter (condR m (someC (ts.map (·.2))))).flatMap fun R => R.rs).map V.int))
      ⟨ea, none, rfl, S3, by rw [List.take_zero]; exact (List.append_nil _).symm ▸ hea⟩ (fun j σ H' _ h => by obtain ⟨_, _, _, S, _⟩ := h; exact sqL_same S hl) ?_ ?_
    · rintro j x σ H4 hx ⟨ea, rv, rfl, S4, hea⟩
      obtain ⟨t, ht, rfl⟩ := map_at2 hx
      have ht2 : (ts.map (·.2))[j]? = some t.2 := by rw [List.getElem?_map, ht]; rfl
      obtain ⟨_, k, pa, _, a, e, r, mw, et, ha, sx⟩ := hts t (List.mem_of_getElem? ht)
      have ha4 := S4 _ _ ha
      have sx4 := sx.ext (ExtN.of S4)
      have yes : condR m (someC (ts.map (·.2))) t.2 = true → ∀ c H', Same H4 H' → SqT K H' c ((pre ++ ((((ts.map (·.2)).take j).filter (condR m (someC (ts.map (·.2))))).flatMap fun R => R.rs).map V.int) ++ t.2.rs.map V.int) →
          ∃ ea rv, ([some mv, some (.bl late), some (.ref l), some t.1, some (.bl (someC (ts.map (·.2)))), some (.ref c)] : L2.St) = [some mv, some (.bl late), some (.ref l), rv, some (.bl (someC (ts.map (·.2)))), some (.ref ea)] ∧ Same H H' ∧
            SqT K H' ea (pre ++ ((((ts.map (·.2)).take (j + 1)).filter (condR m (someC (ts.map (·.2))))).flatMap fun R => R.rs).map V.int) := fun c0 c H' S' sq => by
        refine ⟨c, _, rfl, S4.trans S', ?_⟩
        rw [filter_take ht2, if_pos c0, List.flatMap_append, List.map_append, ← List.append_assoc]
        simp only [List.flatMap_cons, List.flatMap_nil, List.append_nil]
        exact sq
      have no : condR m (someC (ts.map (·.2))) t.2 = false →
          ∃ ea' rv, ([some mv, some (.bl late), some (.ref l), some t.1, some (.bl (someC (ts.map (·.2)))), some (.ref ea)] : L2.St) = [some mv, some (.bl late), some (.ref l), rv, some (.bl (someC (ts.map (·.2)))), some (.ref ea')] ∧ Same H H4 ∧
            SqT K H4 ea' (pre ++ ((((ts.map (·.2)).take (j + 1)).filter (condR m (someC (ts.map (·.2))))).flatMap fun R => R.rs).map V.int) := fun c0 => by
        refine ⟨ea, _, rfl, S4, ?_⟩
        rw [filter_take ht2, if_neg (show ¬ condR m (someC (ts.map (·.2))) t.2 = true from fun z => by rw [c0] at z; cases z), List.append_nil]
        exact hea
      have el := el j
      generalize ((((ts.map (·.2)).take j).filter (condR m (someC (ts.map (·.2))))).flatMap fun R => R.rs).map V.int = acc at hea yes el
      obtain ⟨ar, er, sr⟩ := sx4.rs
      refine ⟨_, rfl, a, _, _, _, et, rfl, SqL.of ha4, rfl, rfl, _, rfl, ite2 (fun c1 => ?_) (fun c1 => ?_)⟩
      rotate_left
      · refine no ?_
        unfold condR
        rw [(Bool.eq_false_iff.mpr c1 : isO "failed" t.2 = false)]
        rfl
      have c1 : isO "failed" t.2 = true := c1
      refine ⟨_, rfl, m.d, .str "any", (hm.ext (ExtN.of S4)).dp, .str _, mok, by decide +kernel, _, rfl, ite2 (fun c2 => ?_) (fun c2 => ⟨_, rfl, _, rfl, ite2 (fun c3 => ?_) (fun c3 => ?_)⟩)⟩
      rotate_left 2
      refine ⟨_, rfl, a, _, _, _, et, rfl, SqL.of ha4, rfl, rfl, _, rfl, ?_⟩
      rw [some_at sx4.mq]
      refine ite2 (fun c4 => ?_) (fun c4 => no ?_)
      rotate_left
      next =>
          have c2 : (!m.is "any") = false := Bool.eq_false_iff.mpr c2
          have c3 : (!someC (ts.map (·.2))) = false := Bool.eq_false_iff.mpr c3
          have c4 : t.2.mq.isSome = false := Bool.eq_false_iff.mpr c4
          unfold condR
          rw [c1, c2, c3, c4]
          rfl
      all_goals (
        have cc : condR m (someC (ts.map (·.2))) t.2 = true := by
          unfold condR
          rw [c1]
          first
          | (have c4 : t.2.mq.isSome = true := c4; rw [c4]; cases m.is "any" <;> cases someC (ts.map (·.2)) <;> rfl)
          | (have c3 : (!someC (ts.map (·.2))) = true := c3; rw [c3]; cases m.is "any" <;> rfl)
          | (have c2 : (!m.is "any") = true := c2; rw [c2]; rfl)
        refine ⟨_, rfl, _, rfl, a, _, _, _, et, rfl, SqL.of ha4, rfl, ea, ar, _, _, rfl, er, hea, sr, ?_, fun z => ?_, fun _ z => ?_, fun _ _ c nc => ?_⟩
        · rw [List.length_append, List.length_map]
          have := (hts t (List.mem_of_getElem? ht)).1.len
          exact Nat.le_trans (m := 600) (by omega) (by decide)
        · refine yes cc _ _ (Same.refl _) ?_
          rw [z, List.nil_append]
          exact sr
        · refine yes cc _ _ (Same.refl _) ?_
          rw [z, List.append_nil]
          exact hea
        · exact yes cc _ _ (same_new nc) (SqT.of upd_same))
    · rintro σ H4 ⟨ea, rv, rfl, S4, hea⟩
      refine ⟨_, rfl, q ea H4 S4 ?_⟩
      rw [List.length_map] at hea
      have e5 : ts.length = (ts.map (·.2)).length := (List.length_map ..).symm
      rw [e5, List.take_length] at hea
      unfold errsOf
      rw [cond_fails]
      exact hea
end
end LB

set_option maxRecDepth 100000
set_option maxHeartbeats 8000000
namespace LB
open PySem PySem.Spec PyProof.Rows L2 LamX
theorem shaped_err (m : Mo) (late : Bool) (Rs : List Rw) : SeqAt.shaped (.tuple (errD m late Rs)) = true := by
  unfold errD
  cases late with
  | true =>
    show (PyData.strOk "deadline exceeded" && PyData.canLayAll0 ((errsOf m Rs).map PyData.int) && decide (max 0 (PyData.depthAll ((errsOf m Rs).map PyData.int)) + 1 ≤ 64)) = true
    rw [lay_intsK, deep_intsK]
    decide +kernel
  | false =>
    show (PyData.canLayAll0 ((errsOf m Rs).map PyData.int) && decide (PyData.depthAll ((errsOf m Rs).map PyData.int) + 1 ≤ 64)) = true
    rw [lay_intsK, deep_intsK]
    decide +kernel
abbrev endsOf (us : List (V × Rw)) : List PyData := us.map fun t => dIns (some t.2.en)
def bst (us : List (V × Rw)) : Nat → V
  | 0 => .non
  | j + 1 => match us[bestOf (endsOf us) j]? with
    | some t => t.1
    | none => .non
theorem ends_at {us : List (V × Rw)} {i : Nat} {t : V × Rw} (h : us[i]? = some t) : (endsOf us).getD i .none = dIns (some t.2.en) := by
  rw [List.getD_eq_getElem?_getD, List.getElem?_map, h]
  rfl
theorem best_step {us : List (V × Rw)} {i : Nat} {b t : V × Rw} (hb : us[bestOf (endsOf us) i]? = some b) (ht : us[i + 1]? = some t) :
    us[bestOf (endsOf us) (i + 1)]? = some (if PySem.W.dataLt (dIns (some t.2.en)) (dIns (some b.2.en)) = true then t else b) := by
  have e : bestOf (endsOf us) (i + 1) = if PySem.W.dataLt ((endsOf us).getD (i + 1) .none) ((endsOf us).getD (bestOf (endsOf us) i) .none) = true then i + 1 else bestOf (endsOf us) i := rfl
  rw [e, ends_at ht, ends_at hb]
  split
  · exact ht
  · exact hb
theorem best_some {us : List (V × Rw)} {i : Nat} (h : i < us.length) : ∃ b, us[bestOf (endsOf us) i]? = some b :=
  ⟨_, List.getElem?_eq_getElem (Nat.lt_of_le_of_lt (bestOf_le (endsOf us) i) h)⟩
section
variable {P : Program} {w : World} {K : PySem.W.Frag} {mg : Str → Option Value} {base : Heap}
def spDue (K : PySem.W.Frag) : Sp := fun vs H Q _ => ∃ (mv : V) (late : Bool) (m : Mo) (l : Addr) (ts : List (V × Rw)), vs = [mv, .bl late, .ref l] ∧ MoAt K H mv m ∧ m.Ok ∧ RowsAt K H l ts ∧ ∀ v H', Same H H' → Dp K H' v (ansD m late (ts.map (·.2))) → Q v H'
theorem scDu : FnScope ["mode", "late", "rows", "errors", "row", "done", "best"] ["mode", "late", "rows"] (defScope sDue) := ⟨rfl, rfl, rfl, by decide +kernel, rfl, by decide +kernel, by decide +kernel⟩
theorem ok_due {f fE : Addr} {fd fdE : FuncData} (F : Fun K "_law_due" "_law_due" sDue f fd) (M : NamesK mg) (FE : Fun K "_law_errors_due" "_law_errors_due" sErrorsDue fE fdE) (mE : mg "_law_errors_due" = some (.ref fE)) (bE : Binds K fdE ["mode", "late", "rows"] []) :
    FnOk P w K mg base CX0 2 f fd ["mode", "late", "rows"] (spDue K) := by
  have GE : FnOk P w K mg base CX0 1 fE fdE ["mode", "late", "rows"] (spErrsDue K) := ok_errsdue FE
  have kE := FE.kp
  refine F.ok scDu (fun vs H Q E h => ?_) (fun cdv A outer s H vs Q E hr h => ?_)
  · obtain ⟨mv, late, m, l, ts, rfl, _⟩ := h
    rfl
  · obtain ⟨mv, late, m, l, ts, rfl, hm, mok, hR, q⟩ := h
    have nd := scDu.nd
    obtain ⟨hl, hlen, hts⟩ := id hR
    refine ⟨_, (pss_cons (ps_set (i := 3) nd rfl (Or.inl rfl) (pe_call GE (hr.mono (by decide)) rfl mE kE bE .nil pass0 (pa_cons (pv 0) (pa_cons (pv 1) (pa_cons (pv 2) pa_nil)))))
        (pss_cons (ps_if (pt_cmpR (op_neD hr.units) (pv 3) (pe_tup pa_nil) (nomark _)) (pss_one (ps_ret (pe_tup (pa_cons pe_str (pa_cons (pv 3) pa_nil))))) pss_nil)
        (pss_cons (ps_setLc (i := 5) (own := [("row", 4)]) (g := (gName 4)) rfl nd rfl rfl (sw_true rfl rfl rfl (by decide +kernel)) (pi_list (pv 2)) (blkOk_by (N := ["mode", "late", "rows", "errors", "row", "done", "best"]) (sc := (defScope sDue)) (by decide +kernel)) (fun _ _ _ _ _ => (pg_name (i := 4) nd rfl (Or.inl rfl))) (fun _ _ _ _ _ => (pts_one (pt_cmpR op_eq (pe_ix (ix_listK (K := K) rfl) (pv 4) pe_int (fun _ _ => rfl)) pe_str (nomark _)))) (fun _ _ _ _ _ => (pv 4)))
        (pss_cons (ps_if (PW.pt (pw_or (pt_cmpR (op_eqD hr.units) (pv 0) pe_str (nomark _)) (pw_or1 (pt_val (pe_callB call_isi (by rfl) M.isi PyProof.Rows.boot_isinstance (pa_cons (pv 0) (pa_cons (pe_bltn (v := .ty "tuple") (by rfl) M.tuple (by decide +kernel) rfl) pa_nil))))))) (pss_cons (ps_if (pt_cmpR op_lt (pe_callB call_len_seq (by rfl) M.len PySem.boot_len (pa_cons (pv 5) pa_nil)) (pe_callB call_len_seq (by rfl) M.len PySem.boot_len (pa_cons (pv 2) pa_nil)) (nomark _)) (pss_one (ps_ret (pe_tup (pa_cons pe_str (pa_cons pe_non pa_nil))))) pss_nil)
        (pss_one (ps_ret (pe_tup (pa_cons pe_str (pa_cons (pe_callTy call_tuple_of (by rfl) M.tuple (by decide +kernel) (pa_cons (pe_lc (own := [("row", 4)]) (g := (gName 4)) rfl nd (pi_list (pv 5)) (blkOk_by (N := ["mode", "late", "rows", "errors", "row", "done", "best"]) (sc := (defScope sDue)) (by decide +kernel)) (fun _ _ _ _ _ => (pg_name (i := 4) nd rfl (Or.inl rfl))) (fun _ _ _ _ _ => pts_nil) (fun _ _ _ _ _ => (pe_ix (ix_listK (K := K) rfl) (pv 4) pe_int (fun _ _ => rfl)))) pa_nil)) pa_nil)))))) pss_nil)
        (pss_cons (ps_set (i := 6) nd rfl (Or.inl rfl) pe_non)
        (pss_cons (ps_for PassesOwn.never rfl (pi_list (pv 5)) (pg_name (i := 4) nd rfl (Or.inl rfl)) (pss_one (ps_if (PW.pt (pw_or (pt_cmpR op_isN (pv 6) pe_non (nomark _)) (pw_or1 (pt_cmpR (op_ltD hr.units) (pe_ix ix_list (pv 4) pe_int (fun _ _ => rfl)) (pe_ix ix_list (pv 6) pe_int (fun _ _ => rfl)) (nomark _))))) (pss_one (ps_set (i := 6) nd rfl (Or.inl rfl) (pv 4))) pss_nil)))
        (pss_cons (ps_if (pt_cmpR op_isN (pv 6) pe_non (nomark _)) (pss_one (ps_ret (pe_tup (pa_cons pe_str (pa_cons pe_non pa_nil))))) pss_nil)
        (pss_one (ps_ret (pe_tup (pa_cons pe_str (pa_cons (pe_ix ix_list (pv 6) pe_int (fun _ _ => rfl)) pa_nil)))))))))))), ?_⟩
    refine ⟨_, rfl, _, rfl, _, rfl, mv, late, m, l, ts, rfl, hm, mok, hR, fun a H1 S1 sE => ?_⟩
    refine ⟨_, rfl, (by show 0 ≤ sizeLine; decide), fun u0 nu0 => ?_⟩
    have S1 := S1.trans (same_new (o := .tup []) nu0)
    have sE := sqT_same (same_new (o := .tup []) nu0) sE
    refine ⟨.tuple (errD m late (ts.map (·.2))), .tuple [], .tup sE err_dp, .tup (SqT.of upd_same) .nil, shaped_err _ _ _, by decide +kernel, ?_⟩
    rw [eqv_nilT]
    generalize upd H1 u0 (.tup []) = H1 at *
    unfold ansD at q
    refine ⟨_, rfl, ite2 (fun c0 => ?_) (fun c0 => ?_)⟩
    · rw [if_neg (fun z => by rw [z] at c0; exact absurd c0 (by decide))] at q
      refine ⟨_, rfl, (by show 2 ≤ sizeLine; decide), fun u nu => ?_⟩
      have S2 := S1.trans (same_new (o := .tup [.str "throw", .ref a]) nu)
      exact q _ _ S2 (.tup (SqT.of upd_same) (.cons (.str _) (.cons (.tup (sqT_same (same_new nu) sE) err_dp) .nil)))
    have e0 : errD m late (ts.map (·.2)) = [] := by
      cases h : errD m late (ts.map (·.2)) with
      | nil => rfl
      | cons d r => rw [h] at c0; exact absurd rfl c0
    rw [if_pos e0] at q
    refine ⟨_, rfl, l, rfl, ⟨_, sqL_same S1 hl⟩, fun D nD => ?_⟩
    refine lc_list (K := K) (xs := ts.map (·.1)) (fun j H' => Same H1 H' ∧ H' D = some (.lst (((ts.take j).filter fun t => isO "completed" t.2).map (·.1)))) ⟨same_new nD, upd_same⟩ (fun j H' _ h => sqL_same (S1.trans h.1) hl) ?_ ?_
    · rintro j y H2 hy ⟨S2, hD⟩
      obtain ⟨t, ht, rfl⟩ := map_at2 hy
      obtain ⟨_, k, pa, _, a, e, r, mw, et, ha, sx⟩ := hts t (List.mem_of_getElem? ht)
      refine ⟨rfl, _, rfl, a, _, _, _, et, rfl, SqL.of (S2 _ _ (S1 _ _ ha)), rfl, rfl, _, rfl, ?_⟩
      refine ite2 (fun c => ⟨_, rfl, _, hD, filt_len hlen, same_upd S2 nD, upd_same.trans (filt_yes (p := fun t => isO "completed" t.2) ht c)⟩) (fun c => ⟨S2, ?_⟩)
      rw [filt_no (p := fun t => isO "completed" t.2) ht c]
      exact hD
    rintro H2 ⟨S2, hD⟩
    rw [List.length_map, List.take_length] at hD
    have S2 := S1.trans S2
    have ef : (ts.map (·.2)).filter (isO "completed") = (ts.filter fun t => isO "completed" t.2).map (·.2) := by simp [List.filter_map, Function.comp_def]
    have el : (ts.map (·.2)).length = ts.length := List.length_map ..
    rw [ef, el] at q
    have sub : ∀ t ∈ ts.filter (fun t => isO "completed" t.2), t ∈ ts := fun t h => (List.mem_filter.mp h).1
    have ul : (ts.filter fun t => isO "completed" t.2).length ≤ 50 := Nat.le_trans (List.length_filter_le _ _) hlen
    have ul2 : (ts.filter fun t => isO "completed" t.2).length ≤ ts.length := List.length_filter_le _ _
    generalize (ts.filter fun t => isO "completed" t.2) = us at hD q sub ul ul2
    clear ef el
    have hm2 := hm.ext (ExtN.of S2)
    have row : ∀ t ∈ us, ∃ a e r mw pa, t.1 = V.ref a ∧ H2 a = some (.lst [.ref pa, .int t.2.pl, .str "finished", e, .str t.2.oc, r, mw]) ∧ Six K H2 t.2 e r mw := fun t ht => by
      obtain ⟨_, k, pa, _, a, e, r, mw, et, ha, sx⟩ := hts t (sub t ht)
      exact ⟨a, e, r, mw, pa, et, S2 _ _ ha, sx.ext (ExtN.of S2)⟩
    refine ⟨_, rfl, m.d, .str "all", hm2.dp, .str _, mok, by decide +kernel, _, rfl, ite2 (fun c => ?_) (fun c => ?_)⟩
    rotate_left
    obtain ⟨ty, ht, hk⟩ := isi_mo hm2
    refine ⟨_, rfl, mv, .ty "tuple", _, _, _, rfl, .ty _, ht, hk, _, rfl, ite2 (fun c2 => ?_) (fun c2 => ?_)⟩
    rotate_left
    next =>
      have nor : ¬ (m.is "all" = true ∨ m.tup = true) := fun z => z.elim c c2
      rw [if_neg nor] at q
      refine ⟨_, rfl, D, rfl, ⟨_, SqL.of hD⟩, ?_⟩
      refine for_list (K := K) (xs := us.map (·.1)) (fun j σ H' => H' = H2 ∧ ∃ rv, σ = [some mv, some (.bl late), some (.ref l), some (.ref a), rv, some (.ref D), some (bst us j)]) ⟨rfl, none, rfl⟩ (fun j σ H' _ h => by rw [h.1]; exact SqL.of hD) ?_ ?_
      · rintro j x σ H' hx ⟨rfl, rv, rfl⟩
        obtain ⟨t, ht, rfl⟩ := map_at2 hx
        obtain ⟨a3, e3, r3, mw3, pa3, et3, ha3, sx3⟩ := row t (List.mem_of_getElem? ht)
        cases j with
        | zero =>
          refine ⟨_, rfl, rfl, _, rfl, iteT ⟨_, rfl, rfl, some t.1, ?_⟩⟩
          have eb : bst us 1 = t.1 := by
            show (match us[0]? with | some t => t.1 | none => V.non) = t.1
            rw [ht]
          rw [eb]
          rfl
        | succ i =>
          have hi : i < us.length := by have := (List.getElem?_eq_some_iff.mp ht).1; omega
          obtain ⟨b, hb⟩ := best_some hi
          have eb : bst us (i + 1) = b.1 := by
            show (match us[bestOf (endsOf us) i]? with | some t => t.1 | none => V.non) = b.1
            rw [hb]
          have es : bst us (i + 1 + 1) = (if PySem.W.dataLt (dIns (some t.2.en)) (dIns (some b.2.en)) = true then t else b).1 := by
            show (match us[bestOf (endsOf us) (i + 1)]? with | some t => t.1 | none => V.non) = _
            rw [best_step hb ht]
          obtain ⟨a4, e4, r4, mw4, pa4, et4, ha4, sx4⟩ := row b (List.mem_of_getElem? hb)
          rw [es, eb, et4, et3]
          refine ⟨_, rfl, rfl, _, rfl, iteF ⟨_, rfl, a3, _, _, _, rfl, rfl, SqL.of ha3, rfl, _, rfl, a4, _, _, _, rfl, rfl, SqL.of ha4, rfl, dIns (some t.2.en), dIns (some b.2.en), sx3.en.dp, sx4.en.dp, ?_, (fun z => by cases z), (show (1 : Nat) ≤ 50 by decide), _, rfl, ite2 (fun c3 => ?_) (fun c3 => ?_)⟩⟩
          · show PySem.W.alike (.tuple [.int t.2.en.1, .int t.2.en.2]) (.tuple [.int b.2.en.1, .int b.2.en.2]) = true
            simp [PySem.W.alike, PySem.W.alikeAll]
          · refine ⟨_, rfl, rfl, some (.ref a3), ?_⟩
            rw [if_pos c3, et3]
            rfl
          · refine ⟨rfl, some (.ref a3), ?_⟩
            rw [if_neg c3, et4]
            rfl
      · rintro σ H' ⟨rfl, rv, rfl⟩
        rw [List.length_map]
        cases hu : us.length with
        | zero =>
          have eu : us = [] := List.eq_nil_of_length_eq_zero hu
          subst eu
          refine ⟨_, rfl, rfl, _, rfl, iteT ⟨(by show 2 ≤ sizeLine; decide), fun u nu => ?_⟩⟩
          exact q _ _ (S2.trans (same_new nu)) (.tup (SqT.of upd_same) (.cons (.str _) (.cons .non .nil)))
        | succ n =>
          obtain ⟨b, hb⟩ := best_some (us := us) (i := n) (by omega)
          have eb : bst us (n + 1) = b.1 := by
            show (match us[bestOf (endsOf us) n]? with | some t => t.1 | none => V.non) = b.1
            rw [hb]
          obtain ⟨a4, e4, r4, mw4, pa4, et4, ha4, sx4⟩ := row b (List.mem_of_getElem? hb)
          have ebR : bestR (us.map (·.2)) = some b.2 := by
            unfold bestR
            rw [List.length_map, List.map_map, List.getElem?_map, hu]
            have hb' : us[bestOf (us.map ((fun R => dIns (some R.en)) ∘ fun x => x.2)) (n + 1 - 1)]? = some b := hb
            rw [hb']
            rfl
          rw [ebR] at q
          rw [eb, et4]
          obtain ⟨ar, er, sr⟩ := sx4.rs
          refine ⟨_, rfl, rfl, _, rfl, iteF ⟨_, rfl, a4, _, _, _, rfl, rfl, SqL.of ha4, rfl, (by show 2 ≤ sizeLine; decide), fun u nu => ?_⟩⟩
          have S4 := same_new (o := .tup [.str "next", r4]) nu
          refine q _ _ (S2.trans S4) (.tup (SqT.of upd_same) (.cons (.str _) (.cons (dp_same S4 ?_) .nil)))
          rw [er]
          exact .tup sr dpI
    all_goals (
      have hor : m.is "all" = true ∨ m.tup = true := by first | exact .inl c | exact .inr c2
      rw [if_pos hor] at q
      refine ⟨_, rfl, D, _, rfl, .inl (SqL.of hD), _, rfl, l, _, rfl, .inl (sqL_same S2 hl), _, _, rfl, rfl, _, rfl, ite2 (fun e => ?_) (fun e => ?_)⟩
      · have e := of_decide_eq_true e
        rw [List.length_map, List.length_map] at e
        rw [List.length_map, if_neg (by omega)] at q
        refine ⟨(by show 2 ≤ sizeLine; decide), fun u nu => ?_⟩
        exact q _ _ (S2.trans (same_new nu)) (.tup (SqT.of upd_same) (.cons (.str _) (.cons .non .nil)))
      have e : ¬ (((us.map (·.1)).length : Int) < ((ts.map (·.1)).length : Int)) := fun z => e (decide_eq_true z)
      rw [List.length_map, List.length_map] at e
      rw [List.length_map, if_pos (by omega)] at q
      refine ⟨_, rfl, D, rfl, ⟨_, SqL.of hD⟩, fun D3 nD3 => ?_⟩
      refine lc_list (K := K) (xs := us.map (·.1)) (fun j H' => Same H2 H' ∧ ∃ rv, H' D3 = some (.lst rv) ∧ DpAll K H2 rv ((us.take j).map fun t => dRs t.2)) ⟨same_new nD3, [], upd_same, .nil⟩ (fun j H' _ h => SqL.of (h.1 _ _ hD)) ?_ ?_
      · rintro j y H3 hy ⟨S3, rv, hD3, dp3⟩
        obtain ⟨t, ht, rfl⟩ := map_at2 hy
        obtain ⟨a3, e3, r3, mw3, pa3, et3, ha3, sx3⟩ := row t (List.mem_of_getElem? ht)
        obtain ⟨ar, er, sr⟩ := sx3.rs
        refine ⟨rfl, _, rfl, a3, _, _, _, et3, rfl, SqL.of (S3 _ _ ha3), rfl, rv, hD3, ?_, same_upd S3 nD3, rv ++ [r3], upd_same, ?_⟩
        · rw [dpAll_len dp3, List.length_map, List.length_take]
          exact Nat.lt_of_le_of_lt (m := 50) (by omega) (by decide)
        · rw [takeS ht, List.map_append]
          refine dpAll_snoc ?_ dp3
          rw [er]
          exact .tup sr dpI
      · rintro H3 ⟨S3, rv, hD3, dp3⟩
        rw [List.length_map, List.take_length] at dp3
        refine ⟨D3, _, rfl, .inl ⟨SqL.of hD3, fun u nu => ?_⟩⟩
        have S4 := S3.trans (same_new (o := .tup rv) nu)
        refine ⟨(by show 2 ≤ sizeLine; decide), fun u2 nu2 => ?_⟩
        have S5 := same_new (o := .tup [.str "next", .ref u]) nu2
        have S6 := (S2.trans S4).trans S5
        refine q _ _ S6 (.tup (SqT.of upd_same) (.cons (.str _) (.cons (.tup (sqT_same S5 (SqT.of upd_same)) ?_) .nil)))
        rw [List.map_map]
        exact dpAll_same (S4.trans S5) dp3)
end
end LB

set_option maxRecDepth 100000
set_option maxHeartbeats 8000000
namespace LB
open PySem PySem.Spec PyProof.Rows L2 LamX
theorem But.offNone {b : Addr} {H H' : Hp} {p : Addr} (B : Box H b) (U : But b H H') (n : H' p = none) : H p = none := by
  by_cases e : p = b
  · obtain ⟨l, ds, k, h, _⟩ := B
    obtain ⟨k', h'⟩ := U.d l k h
    rw [e, h'] at n
    cases n
  · cases h : H p with
    | none => rfl
    | some o => rw [U.k p o e h] at n; cases n
theorem At.but {K : PySem.W.Frag} {b : Addr} {H H' : Hp} {v : V} {o : Option Ins} (B : Box H b) (x : But b H H') (h : At K H v o) : At K H' v o := (BN.but x).at_ B.offB h
theorem At.same {K : PySem.W.Frag} {H H' : Hp} {v : V} {o : Option Ins} (x : Same H H') (h : At K H v o) : At K H' v o := ext_at (ExtN.of x) h
section
variable {P : Program} {w : World} {K : PySem.W.Frag} {mg : Str → Option Value} {base : Heap}
def spEnded (K : PySem.W.Frag) : Sp := fun vs H Q _ => ∃ (b : Addr) (pth : V), vs = [.ref b, pth] ∧ Box H b ∧ ∀ (a : Addr) (R : Rw) (H' : Hp), H a = none → Box H' b → But b H H' → RwB R → RwAt K H' (.ref a) pth R → Q (.ref a) H'
theorem scEn : FnScope ["box", "path", "outcome", "result", "mark", "k"] ["box", "path"] (defScope sEnded) := ⟨rfl, rfl, rfl, by decide +kernel, rfl, by decide +kernel, by decide +kernel⟩
theorem ok_ended {f fD : Addr} {fd fdD : FuncData} (F : Fun K "_law_ended" "_law_ended" sEnded f fd) (M : NamesK mg) (FD : Fun K "_law_draw" "_law_draw" sDraw fD fdD) (mD : mg "_law_draw" = some (.ref fD)) (bD : Binds K fdD ["box", "many"] []) :
    FnOk P w K mg base CX0 2 f fd ["box", "path"] (spEnded K) := by
  have GD : FnOk P w K mg base CX0 1 fD fdD ["box", "many"] (spDraw K) := ok_draw FD M.toNames
  have kD := FD.kp
  refine F.ok scEn (fun vs H Q E h => ?_) (fun cdv A outer s H vs Q E hr h => ?_)
  · obtain ⟨b, pth, rfl, _⟩ := h
    rfl
  · obtain ⟨b, pth, rfl, B, q⟩ := h
    have nd := scEn.nd
    refine ⟨_, (pss_cons (ps_set (i := 2) nd rfl (Or.inl rfl) (pe_ix ix_list (pe_lst (pa_cons pe_str (pa_cons pe_str (pa_cons pe_str (pa_cons pe_str pa_nil))))) (pe_call GD (hr.mono (by decide)) rfl mD kD bD .nil pass0 (pa_cons (pv 0) (pa_cons pe_int pa_nil))) (fun _ _ => rfl)))
        (pss_cons (ps_set (i := 3) nd rfl (Or.inl rfl) (pe_tup pa_nil))
        (C8.pss_cut (ps_if (pt_cmpR op_ne (pv 2) pe_str (nomark _)) (pss_one (ps_set (i := 3) nd rfl (Or.inl rfl) (pe_callTy call_tuple_of (by rfl) M.tuple (by decide +kernel) (pa_cons (pe_lc (own := [("k", 5)]) (g := (gName 5)) rfl nd (pi_range1 (by rfl) M.range (pa_cons (pe_op op_add pe_int (pe_call GD (hr.mono (by decide)) rfl mD kD bD .nil pass0 (pa_cons (pv 0) (pa_cons pe_int pa_nil)))) pa_nil)) (blkOk_by (N := ["box", "path", "outcome", "result", "mark", "k"]) (sc := (defScope sEnded)) (by decide +kernel)) (fun _ _ _ _ _ => (pg_name (i := 5) nd rfl (Or.inl rfl))) (fun _ _ _ _ _ => pts_nil) (fun _ _ _ _ _ => (pe_call GD (hr.mono (by decide)) rfl mD kD bD .nil pass0 (pa_cons (pv 0) (pa_cons pe_int pa_nil))))) pa_nil)))) pss_nil)
        (pss_cons (ps_set (i := 4) nd rfl (Or.inl rfl) (pe_ix ix_list (pe_lst (pa_cons pe_non (pa_cons (pe_tup (pa_cons (pe_call GD (hr.mono (by decide)) rfl mD kD bD .nil pass0 (pa_cons (pv 0) (pa_cons pe_int pa_nil))) (pa_cons pe_int pa_nil))) pa_nil))) (pe_call GD (hr.mono (by decide)) rfl mD kD bD .nil pass0 (pa_cons (pv 0) (pa_cons pe_int pa_nil))) (fun _ _ => rfl)))
        (pss_one (ps_ret (pe_lst (pa_cons (pv 1) (pa_cons (pe_call GD (hr.mono (by decide)) rfl mD kD bD .nil pass0 (pa_cons (pv 0) (pa_cons pe_int pa_nil))) (pa_cons pe_str (pa_cons (pe_tup (pa_cons (pe_op op_add (pe_call GD (hr.mono (by decide)) rfl mD kD bD .nil pass0 (pa_cons (pv 0) (pa_cons pe_int pa_nil))) pe_int) (pa_cons (pe_call GD (hr.mono (by decide)) rfl mD kD bD .nil pass0 (pa_cons (pv 0) (pa_cons pe_int pa_nil))) pa_nil))) (pa_cons (pv 2) (pa_cons (pv 3) (pa_cons (pv 4) pa_nil)))))))))))))), ?_⟩
    refine ⟨(by show 4 ≤ sizeLine; decide), fun l nl => ⟨_, rfl, b, 4, rfl, B.new nl, by decide, fun r H1 r0 r1 B1 U1 => ?_⟩⟩
    have hl := B.keepL nl U1
    obtain ⟨oc, eo, hoc⟩ : ∃ oc : Str, atI [V.str "completed", .str "completed", .str "failed", .str "cancelled"] r = some (.str oc) ∧ (oc = "completed" ∨ oc = "failed" ∨ oc = "cancelled") := by
      have c : r = 0 ∨ r = 1 ∨ r = 2 ∨ r = 3 := by omega
      rcases c with rfl | rfl | rfl | rfl
      · exact ⟨_, rfl, .inl rfl⟩
      · exact ⟨_, rfl, .inl rfl⟩
      · exact ⟨_, rfl, .inr (.inl rfl)⟩
      · exact ⟨_, rfl, .inr (.inr rfl)⟩
    refine ⟨l, _, _, _, rfl, rfl, SqL.of hl, eo, (by show 0 ≤ sizeLine; decide), fun t0 nt0 => ?_⟩
    have U1 : But b H H1 := (But.of (same_new nl)).trans U1
    have B1 := B1.new (o := .tup []) nt0
    have U1 := U1.new (o := .tup []) nt0
    have h0 : SqT K (upd H1 t0 (.tup [])) t0 [] := SqT.of upd_same
    generalize upd H1 t0 (.tup []) = H2 at *
    refine ⟨fun σ H' => ∃ (rs : List Int) (ar : Addr), σ = [some (.ref b), some pth, some (.str oc), some (.ref ar), none, none] ∧ Box H' b ∧ But b H H' ∧ SqT K H' ar (rs.map V.int) ∧ rs.length ≤ 2 ∧ ∀ n ∈ rs, Sm n, ?_, ?_⟩
    · refine ⟨_, rfl, rfl, _, rfl, ite2 (fun _ => ?_) (fun _ => ⟨[], t0, rfl, B1, U1, h0, by decide, fun n h => by simp at h⟩)⟩
      refine ⟨_, rfl, b, 2, rfl, B1, by decide, fun r' H3 r0' r1' B3 U3 => ⟨_, _, rfl, rfl, _, rfl, by omega, by omega, fun D nD => ?_⟩⟩
      have U3 := U1.trans U3
      have fD : H D = none := But.offNone B U3 nD
      have db : D ≠ b := B.apart fD
      refine lc_range (n := (1 + r').toNat) (fun j H' => ∃ ns : List Int, H' D = some (.lst (ns.map V.int)) ∧ ns.length = j ∧ (∀ n ∈ ns, Sm n) ∧ Box H' b ∧ But b H H') ⟨[], upd_same, rfl, fun x h => by simp at h, B3.new nD, U3.new nD⟩ ?_ ?_
      · rintro j H4 hj ⟨ns, hD, hlen, hs, B4, U4⟩
        refine ⟨rfl, _, rfl, b, 1000, rfl, B4, by decide, fun x H5 x0 x1 B5 U5 => ?_⟩
        have hD5 := U5.k D _ db hD
        have U5 := U4.trans U5
        refine ⟨_, hD5, ?_, ns ++ [x], upd_same.trans (congrArg some lst_more), by rw [List.length_append, hlen]; rfl, ?_, (Box.put B B5 U5 fD).1, (Box.put B B5 U5 fD).2⟩
        · rw [List.length_map]
          exact small_line (by omega)
        · intro z hz
          rcases List.mem_append.mp hz with h | h
          · exact hs z h
          · rw [List.mem_singleton.mp h]
            exact Sm.of (by omega) (by omega)
      · rintro H4 ⟨ns, hD, hlen, hs, B4, U4⟩
        refine ⟨D, _, rfl, .inl ⟨SqL.of hD, fun u nu => ?_⟩⟩
        exact ⟨ns, u, rfl, B4.new nu, U4.new nu, SqT.of upd_same, by omega, hs⟩
    clear h0 B1 U1 hl eo
    rintro σ H3 ⟨rs, ar, rfl, B3, U3, sr, rl, rsm⟩
    refine ⟨_, rfl, b, 9, rfl, B3, by decide, fun x H4 x0 x1 B4 U4 => ⟨(by show 2 ≤ sizeLine; decide), fun p np => ⟨(by show 2 ≤ sizeLine; decide), fun l2 nl2 => ?_⟩⟩⟩
    have sr4 := B3.tup U4 sr
    have U4 := U3.trans U4
    have Sa := same_new (o := .tup [V.int x, .int 0]) np
    have Sb := same_new (o := .lst [V.non, .ref p]) nl2
    have B5 := (B4.new (o := .tup [V.int x, .int 0]) np).new (o := .lst [V.non, .ref p]) nl2
    have atp : At K (upd (upd H4 p (.tup [.int x, .int 0])) l2 (.lst [.non, .ref p])) (.ref p) (some (x, 0)) := ⟨p, rfl, SqT.of (Sb _ _ upd_same)⟩
    have U5 := (U4.new (o := .tup [V.int x, .int 0]) np).new (o := .lst [V.non, .ref p]) nl2
    have sr5 := sqT_same (Sa.trans Sb) sr4
    refine ⟨_, rfl, b, 2, rfl, B5, by decide, fun y H6 y0 y1 B6 U6 => ?_⟩
    have hl2 := (B4.new (o := .tup [V.int x, .int 0]) np).keepL nl2 U6
    have atp := atp.but B5 U6
    have sr6 := B5.tup U6 sr5
    have U6 := U5.trans U6
    obtain ⟨mv, mq, em, hm, sm⟩ : ∃ (mv : V) (mq : Option Ins), atI [V.non, .ref p] y = some mv ∧ At K H6 mv mq ∧ ∀ p, mq = some p → Sm p.1 ∧ Sm p.2 := by
      have c : y = 0 ∨ y = 1 := by omega
      rcases c with rfl | rfl
      · exact ⟨_, none, rfl, rfl, fun p h => by cases h⟩
      · exact ⟨_, some (x, 0), rfl, atp, fun p h => by cases h; exact ⟨Sm.of (by omega) (by omega), Sm.of (show (-1000000000 : Int) ≤ 0 by decide) (show (0 : Int) ≤ 1000000000 by decide)⟩⟩
    refine ⟨l2, _, _, _, rfl, rfl, SqL.of hl2, em, _, rfl, _, rfl, b, 9, rfl, B6, by decide, fun z H7 z0 z1 B7 U7 => ?_⟩
    have sr7 := B6.tup U7 sr6
    have hm7 := hm.but B6 U7
    have U7 := U6.trans U7
    refine ⟨_, rfl, b, 4, rfl, B7, by decide, fun i H8 i0 i1 B8 U8 => ⟨_, _, rfl, rfl, ?_⟩⟩
    have sr8 := B7.tup U8 sr7
    have hm8 := hm7.but B7 U8
    have U8 := U7.trans U8
    refine ⟨_, rfl, b, 3, rfl, B8, by decide, fun j H9 j0 j1 B9 U9 => ⟨(by show 2 ≤ sizeLine; decide), fun p3 np3 => ⟨_, rfl, _, rfl, _, rfl, (by show 7 ≤ sizeLine; decide), fun a na => ?_⟩⟩⟩
    have sr9 := B8.tup U9 sr8
    have hm9 := hm8.but B8 U9
    have U9 := U8.trans U9
    have Sc := same_new (o := .tup [V.int (i + 4), .int j]) np3
    have Bd := (B9.new (o := .tup [V.int (i + 4), .int j]) np3)
    have Ud := U9.new (o := .tup [V.int (i + 4), .int j]) np3
    have Sd := same_new (o := .lst [pth, .int z, .str "finished", .ref p3, .str oc, .ref ar, mv]) na
    refine q a ⟨z, (i + 4, j), oc, rs, mq⟩ _ (But.offNone B Ud na) (Bd.new na) (Ud.new na) ⟨hoc, rl, rsm, Sm.of (show (-1000000000 : Int) ≤ z by omega) (show z ≤ 1000000000 by omega), ⟨Sm.of (show (-1000000000 : Int) ≤ i + 4 by omega) (show i + 4 ≤ 1000000000 by omega), Sm.of (show (-1000000000 : Int) ≤ j by omega) (show j ≤ 1000000000 by omega)⟩, sm⟩ ?_
    exact ⟨a, .ref p3, .ref ar, mv, rfl, upd_same, ⟨⟨p3, rfl, sqT_same Sd (SqT.of upd_same)⟩, ⟨ar, rfl, sqT_same (Sc.trans Sd) sr9⟩, hm9.same (Sc.trans Sd)⟩⟩
end
end LB

set_option maxRecDepth 100000
set_option maxHeartbeats 8000000
namespace LB
open PySem PySem.Spec PyProof.Rows L2 LamX
/-! ### data of a short repr -/
theorem td_ins {o : Option Ins} (h : ∀ p, o = some p → Sm p.1 ∧ Sm p.2) : Td (dIns o) 1 10 := by
  cases o with
  | none => exact Td.non.up (by decide) (by decide)
  | some p => exact (Td.tup (.cons (Td.int (h p rfl).1) (.cons (Td.int (h p rfl).2) .nil))).up (by decide) (by decide)
theorem td_rs {R : Rw} (b : RwB R) : Td (dRs R) 1 10 := (Td.tup (TdA.ints b.rs)).up (by decide) (by have := b.len; omega)
theorem sm0 : Sm 0 := Sm.of (by decide) (by decide)
theorem sm1 : Sm 1 := Sm.of (by decide) (by decide)
theorem td_oc {R : Rw} (b : RwB R) : Td (.str R.oc) 1 10 := by
  rcases b.oc with e | e | e <;> (rw [e]; exact (Td.str (by decide)).up (Nat.zero_le _) (by decide))
theorem td_row {k : Int} {R : Rw} (hk : Sm k) (b : RwB R) : Td (dRow k R) 2 200 := by
  have z : ∀ {d : PyData}, Td d 0 0 → Td d 1 10 := fun h => h.up (by decide) (by decide)
  refine (Td.lst (TdA.cons (m := 10) ((Td.tup (.cons (.int sm0) (.cons (.int sm1) (.cons (.int hk) .nil)))).up (by decide) (by decide)) (.cons (z (.int b.pl)) (.cons ((Td.str (by decide)).up (Nat.zero_le 1) (show _ ≤ 10 by decide)) (.cons (td_ins fun p e => ?_) (.cons (td_oc b) (.cons (td_rs b) (.cons (td_ins b.mq) .nil)))))))).up (by decide) (by decide)
  cases e
  exact b.en
theorem td_err {m : Mo} {late : Bool} {Rs : List Rw} (h : ∀ R ∈ Rs, RwB R) (hl : Rs.length ≤ 50) : TdA (errD m late Rs) 1 2000 := by
  have sub : ∀ R ∈ failsOf id m (someC Rs) Rs, R ∈ Rs := fun R h => failsOf_sub h
  have fl : (failsOf id m (someC Rs) Rs).length ≤ 50 := by
    unfold failsOf
    split
    · exact Nat.le_trans (List.length_filter_le _ _) (Nat.le_trans (List.length_filter_le _ _) hl)
    · exact Nat.le_trans (List.length_filter_le _ _) hl
  have e : TdA ((errsOf m Rs).map PyData.int) 1 500 := by
    refine (TdA.ints fun n hn => ?_).up (by decide) ?_
    · obtain ⟨R, hR, hn⟩ := List.mem_flatMap.mp hn
      exact (h R (sub R hR)).rs n hn
    · refine Nat.le_trans (flat_len fun R hR => ?_) (by omega)
      have := (h R (sub R hR)).len
      omega
  unfold errD
  cases late with
  | true => exact (TdA.cons ((Td.str (by decide)).up (Nat.zero_le 1) (show _ ≤ 100 by decide)) e).up (Nat.le_refl _) (by decide)
  | false => exact e.up (Nat.le_refl _) (by decide)
theorem td_ans {m : Mo} {late : Bool} {Rs : List Rw} (h : ∀ R ∈ Rs, RwB R) (hl : Rs.length ≤ 50) : Short (ansD m late Rs) := by
  have two : ∀ (x : Str) {d : PyData}, (x.cps.toList.all fun c => decide (c < 16 ^ 8)) = true → x.cps.size ≤ 20 → Td d 2 2000 → Short (.tuple [.str x, d]) := fun x d a b t =>
    (Td.tup (.cons ((Td.str a).up (Nat.zero_le 2) b) (.cons t .nil))).short (by decide) (by decide)
  have sub : ∀ R ∈ Rs.filter (isO "completed"), R ∈ Rs := fun R hR => (List.mem_filter.mp hR).1
  unfold ansD
  split
  · refine two _ (by decide) (by decide) ?_
    split
    · split
      · refine (Td.tup (TdA.of (k := 1) (m := 10) fun d hd => ?_)).up (Nat.le_refl _) ?_
        · obtain ⟨R, hR, e⟩ := List.mem_map.mp hd
          rw [← e]
          exact td_rs (h R (sub R hR))
        · rw [List.length_map]
          have := List.length_filter_le (isO "completed") Rs
          omega
      · exact Td.non.up (by decide) (by decide)
    · split
      · exact Td.non.up (by decide) (by decide)
      · rename_i R hb
        exact (td_rs (h R (sub R (List.mem_of_getElem? hb)))).up (by decide) (by decide)
  · exact two _ (by decide) (by decide) (Td.tup (td_err h hl))
theorem two_of {a : Int} {b : Int} : ([V.int a, .int b] : List V) = [a, b].map V.int := rfl
section
variable {P : Program} {w : World} {K : PySem.W.Frag} {mg : Str → Option Value} {base : Heap}
def spNew : Sp := fun vs H Q _ => ∃ b : Addr, vs = [.ref b] ∧ Box H b ∧ ∀ H', Q (.bl true) H'
abbrev dvT : List V := [.str "created", .non, .non, .non, .non]
abbrev dvS : List V := [.non, .bl false]
theorem scNw : FnScope ["box", "path", "task", "scope"] ["box"] (defScope sNew) := ⟨rfl, rfl, rfl, by decide +kernel, rfl, by decide +kernel, by decide +kernel⟩
theorem ok_new {Ct Cs f fD fT fS fF fA fR fC fL : Addr} {fd fdD fdT fdS fdF fdA fdR fdC fdL : FuncData} {dsT dsS : List Value} (F : Fun K "_law_new" "_law_new" sNew f fd) (M : NamesK mg) (FD : Fun K "_law_draw" "_law_draw" sDraw fD fdD) (mD : mg "_law_draw" = some (.ref fD)) (bD : Binds K fdD ["box", "many"] [])
    (T : ClsT K Ct) (S : ClsS K Cs) (GI : FnOk P w K mg base CX0 1 fT fdT psT (spTInit K Ct)) (MT : Mk K Ct fT) (mT : mg "Task" = some (.ref Ct)) (bT : Binds K fdT psT dsT) (rT : Vals dvT dsT)
    (GJ : FnOk P w K mg base CX0 1 fS fdS psS (spSInit K Cs)) (MS : Mk K Cs fS) (mS : mg "Scope" = some (.ref Cs)) (bS : Binds K fdS psS dsS) (rS : Vals dvS dsS)
    (GF : FnOk P w K mg base CX0 1 fF fdF ["task"] (spFields K Ct)) (mF : mg "_law_fields" = some (.ref fF)) (kF : PySem.W.keepIn K (.ref fF) = true) (bF : Binds K fdF ["task"] [])
    (GA : FnOk P w K mg base CX0 1 fA fdA ["self"] (spAlive K Ct)) (hA : Meth K Ct "is_alive" fA) (bA : Binds K fdA ["self"] [])
    (GR : FnOk P w K mg base CX0 1 fR fdR ["task"] (spRest K Ct)) (mR : mg "_law_rest" = some (.ref fR)) (kR : PySem.W.keepIn K (.ref fR) = true) (bR : Binds K fdR ["task"] [])
    (GC : FnOk P w K mg base CX0 1 fC fdC ["scope"] (spScopeF K Cs)) (mC : mg "_law_scope_fields" = some (.ref fC)) (kC : PySem.W.keepIn K (.ref fC) = true) (bC : Binds K fdC ["scope"] [])
    (GL : FnG P w K mg base CX0 1 fL fdL ["one", "two"] (spAlike K)) (mL : mg "_law_alike" = some (.ref fL)) (kL : PySem.W.keepIn K (.ref fL) = true) (bL : Binds K fdL ["one", "two"] []) :
    FnG P w K mg base CX0 3 f fd ["box"] spNew := by
  have GD : FnOk P w K mg base CX0 1 fD fdD ["box", "many"] (spDraw K) := ok_draw FD M.toNames
  have kD := FD.kp
  refine FnG.of_fun F scNw (fun vs H Q E h => ?_) (fun cdv A outer s H vs Q E gf hr h => ?_)
  · obtain ⟨b, rfl, _⟩ := h
    rfl
  · obtain ⟨b, rfl, B, q⟩ := h
    have nd := scNw.nd
    have clT := T.cl
    refine ⟨_, (pss_cons (ps_set (i := 1) nd rfl (Or.inl rfl) (pe_tup (pa_cons (pe_call GD (hr.mono (by decide)) rfl mD kD bD .nil pass0 (pa_cons (pv 0) (pa_cons pe_int pa_nil))) (pa_cons pe_int (pa_cons (pe_call GD (hr.mono (by decide)) rfl mD kD bD .nil pass0 (pa_cons (pv 0) (pa_cons pe_int pa_nil))) pa_nil)))))
        (pss_cons (ps_set (i := 2) nd rfl (Or.inl rfl) (pe_make MT GI (hr.mono (by decide)) rfl mT bT rT pass0 (pa_cons (pv 1) (pa_cons pe_int pa_nil))))
        (pss_cons (ps_set (i := 3) nd rfl (Or.inl rfl) (pe_make MS GJ (hr.mono (by decide)) rfl mS bS rS pass0 (pa_cons (pe_slice sl_tup (pv 1) po_none (po_some pe_int)) (pa_cons pe_str (pa_cons pe_non (pa_cons pe_int pa_nil))))))
        (pss_cons (ps_if (PW.pt (pw_or (pt_cmpR (op_neD hr.units) (pe_call GF (hr.mono (by decide)) rfl mF kF bF .nil pass0 (pa_cons (pv 2) pa_nil)) (pe_lst (pa_cons (pv 1) (pa_cons pe_int (pa_cons pe_str (pa_cons pe_non (pa_cons pe_non (pa_cons pe_non (pa_cons pe_non pa_nil)))))))) (nomark _)) (pw_or1 (pt_cmpR op_isnot_bl (pe_meth0 (pv 2) clT hA GA (hr.mono (by decide)) bA .nil pass0) pe_bl (nomark _))))) (pss_one (ps_ret pe_bl)) pss_nil)
        (pss_cons (ps_if (pt_not (pt_val (pe_callF gf GL (hr.mono (by decide)) rfl mL kL bL .nil pass0 (pa_cons (pe_call GR (hr.mono (by decide)) rfl mR kR bR .nil pass0 (pa_cons (pv 2) pa_nil)) (pa_cons (pe_lst (pa_cons pe_int (pa_cons pe_int (pa_cons pe_non (pa_cons pe_non (pa_cons pe_bl pa_nil)))))) pa_nil))))) (pss_one (ps_ret pe_bl)) pss_nil)
        (pss_one (ps_ret (pe_callF gf GL (hr.mono (by decide)) rfl mL kL bL .nil pass0 (pa_cons (pe_call GC (hr.mono (by decide)) rfl mC kC bC .nil pass0 (pa_cons (pv 3) pa_nil)) (pa_cons (pe_lst (pa_cons (pe_slice sl_tup (pv 1) po_none (po_some pe_int)) (pa_cons pe_str (pa_cons pe_non (pa_cons pe_int (pa_cons pe_non (pa_cons pe_bl pa_nil))))))) pa_nil)))))))))), ?_⟩
    refine ⟨_, rfl, b, 8, rfl, B, by decide, fun x H1 x0 x1 B1 U1 => ⟨_, rfl, b, 6, rfl, B1, by decide, fun y H2 y0 y1 B2 U2 => ⟨(by show 3 ≤ sizeLine; decide), fun p np => ?_⟩⟩⟩
    have hp : SqT K (upd H2 p (.tup [.int x, .int 0, .int y])) p [.int x, .int 0, .int y] := SqT.of upd_same
    generalize upd H2 p (.tup [.int x, .int 0, .int y]) = H3 at hp
    have smx : Sm x := Sm.of (by omega) (by omega)
    have smy : Sm y := Sm.of (by omega) (by omega)
    refine ⟨_, rfl, fun tx dx nx ndx ne => ⟨tx, dx, _, _, _, _, _, _, _, rfl, upd_same, fun fs H4 fr hx tf _ => ⟨rfl, ?_⟩⟩⟩
    have S4 := same_make nx ndx ne fr
    have hp4 := sqT_same S4 hp
    have ht : TkAt K H4 Ct (.ref tx) (.ref p) (.int 3) (.str "created") .non .non .non .non := ⟨tx, dx, fs, rfl, hx, tf⟩
    refine ⟨_, rfl, _, rfl, p, _, rfl, hp4, (show ¬ (HT.sIx 3 0 none = 0 ∧ HT.sIx 3 3 (some 2) = 3) by decide), fun p2 np2 => ?_⟩
    have S5 := same_new (o := .tup (cutV [V.int x, .int 0, .int y] none (some 2))) np2
    have hq5 : SqT K (upd H4 p2 (.tup (cutV [V.int x, .int 0, .int y] none (some 2)))) p2 [.int x, .int 0] := SqT.of upd_same
    have hp5 := sqT_same S5 hp4
    have ht5 := ht.ext (ExtN.of S5)
    generalize upd H4 p2 (.tup (cutV [V.int x, .int 0, .int y] none (some 2))) = H5 at *
    refine fun sx dx2 nx2 ndx2 ne2 => ⟨sx, dx2, _, _, _, _, _, _, rfl, upd_same, fun fs2 H6 fr2 hx2 sf => ⟨rfl, ?_⟩⟩
    have S6 := same_make nx2 ndx2 ne2 fr2
    have hp6 := sqT_same S6 hp5
    have hq6 := sqT_same S6 hq5
    have ht6 := ht5.ext (ExtN.of S6)
    have hs6 : ScAt K H6 Cs (.ref sx) (.ref p2) (.str "any") .non (.int 2) .non (.bl false) := ⟨sx, dx2, fs2, rfl, hx2, sf⟩
    clear hx hx2 fr fr2 nx nx2 ndx ndx2 ne ne2 S4 S5 hp hp4 hp5 hq5 ht ht5 S6 np2
    -- what the task tells
    refine ⟨_, rfl, _, _, _, _, _, _, _, _, rfl, ht6, fun l1 H7 S7 hl1 => ⟨_, rfl, (by show 7 ≤ sizeLine; decide), fun l2 nl2 => ?_⟩⟩
    have S8 := same_new (o := .lst [V.ref p, .int 3, .str "created", .non, .non, .non, .non]) nl2
    have S78 := S7.trans S8
    have hp8 := sqT_same S78 hp6
    have hq8 := sqT_same S78 hq6
    have ht8 := ht6.ext (ExtN.of S78)
    have hs8 := hs6.ext (ExtN.of S78)
    have dpath : Dp K (upd H7 l2 (.lst [V.ref p, .int 3, .str "created", .non, .non, .non, .non])) (.ref p) (.tuple [.int x, .int 0, .int y]) := .tup hp8 (.cons (.int _) (.cons (.int _) (.cons (.int _) .nil)))
    have da : DpAll K (upd H7 l2 (.lst [V.ref p, .int 3, .str "created", .non, .non, .non, .non])) [V.ref p, .int 3, .str "created", .non, .non, .non, .non] [.tuple [.int x, .int 0, .int y], .int 3, .str "created", .none, .none, .none, .none] :=
      .cons dpath (.cons (.int _) (.cons (.str _) (.cons .non (.cons .non (.cons .non (.cons .non .nil))))))
    have lay : PyData.canLay0 (.list [.tuple [.int x, .int 0, .int y], .int 3, .str "created", .none, .none, .none, .none]) = true := by
      show (true && (true && (PyData.strOk "created" && (true && (true && (true && (true && true))))))) = true
      decide +kernel
    have shp : SeqAt.shaped (.list [.tuple [.int x, .int 0, .int y], .int 3, .str "created", .none, .none, .none, .none]) = true := by
      show (_ && decide ((2 : Nat) ≤ 64)) = true
      rw [lay]
      decide
    refine ⟨_, _, .lst (SqL.of (S8 _ _ hl1)) da, .lst (SqL.of upd_same) da, shp, shp, ?_⟩
    rw [SeqAt.eqv_refl _ lay]
    generalize upd H7 l2 (.lst [V.ref p, .int 3, .str "created", .non, .non, .non, .non]) = H8 at *
    refine ⟨_, rfl, iteF ?_⟩
    obtain ⟨tx', dx', fs', etx, htx, tf'⟩ := id ht8
    cases etx
    refine ⟨_, rfl, tx, dx', fs', rfl, htx, tf'.na, ⟨_, _, _, _, _, _, _, _, rfl, ht8, ?_⟩⟩
    refine ⟨_, _, rfl, rfl, _, rfl, iteF ?_⟩
    -- the rest of it
    refine ⟨_, rfl, _, _, _, _, _, _, _, _, rfl, ht8, fun l3 H9 S9 hl3 => ⟨(by show 5 ≤ sizeLine; decide), fun l4 nl4 => ?_⟩⟩
    have S10 := same_new (o := .lst [V.int 0, .int 0, .non, .non, .bl false]) nl4
    have db : DpAll K (upd H9 l4 (.lst [V.int 0, .int 0, .non, .non, .bl false])) [V.int 0, .int 0, .non, .non, .bl false] [.int 0, .int 0, .none, .none, .bool false] := .cons (.int _) (.cons (.int _) (.cons .non (.cons .non (.cons (.bl _) .nil))))
    refine ⟨_, _, _, rfl, .lst (SqL.of (S10 _ _ hl3)) db, .lst (SqL.of upd_same) db, .of (by decide +kernel) (by decide +kernel) (by decide +kernel) (by decide +kernel) (by decide +kernel), _, rfl, iteF ?_⟩
    have S910 := S9.trans S10
    have hp10 := sqT_same S910 hp8
    have hq10 := sqT_same S910 hq8
    have hs10 := hs8.ext (ExtN.of S910)
    generalize upd H9 l4 (.lst [V.int 0, .int 0, .non, .non, .bl false]) = H10 at *
    refine ⟨_, rfl, _, _, _, _, _, _, _, rfl, hs10, fun l5 H11 S11 hl5 => ⟨_, rfl, _, rfl, p, _, rfl, sqT_same S11 hp10, (show ¬ (HT.sIx 3 0 none = 0 ∧ HT.sIx 3 3 (some 2) = 3) by decide), fun p3 np3 => ⟨(by show 6 ≤ sizeLine; decide), fun l6 nl6 => ?_⟩⟩⟩
    have S12 := same_new (o := .tup (cutV [V.int x, .int 0, .int y] none (some 2))) np3
    have S13 := same_new (o := .lst [V.ref p3, .str "any", .non, .int 2, .non, .bl false]) nl6
    have hq13 := sqT_same (S12.trans S13) (sqT_same S11 hq10)
    have hp3 : SqT K (upd H11 p3 (.tup (cutV [V.int x, .int 0, .int y] none (some 2)))) p3 [.int x, .int 0] := SqT.of upd_same
    have hp3 := sqT_same S13 hp3
    refine ⟨_, _, .list [.tuple [.int x, .int 0], .str "any", .none, .int 2, .none, .bool false], rfl, .lst (SqL.of (S13 _ _ (S12 _ _ hl5))) (.cons (.tup hq13 (.cons (.int _) (.cons (.int _) .nil))) (.cons (.str _) (.cons .non (.cons (.int _) (.cons .non (.cons (.bl _) .nil)))))),
      .lst (SqL.of upd_same) (.cons (.tup hp3 (.cons (.int _) (.cons (.int _) .nil))) (.cons (.str _) (.cons .non (.cons (.int _) (.cons .non (.cons (.bl _) .nil)))))), ?_, q _⟩
    exact (Td.lst (TdA.cons ((Td.tup (.cons (.int smx) (.cons (.int sm0) .nil))).up (Nat.le_refl 1) (Nat.le_refl _)) (.cons ((Td.str (by decide)).up (Nat.zero_le _) (Nat.le_refl _)) (.cons (Td.non.up (Nat.zero_le _) (Nat.le_refl _)) (.cons ((Td.int (Sm.of (by decide) (by decide))).up (Nat.zero_le _) (Nat.le_refl _)) (.cons (Td.non.up (Nat.zero_le _) (Nat.le_refl _)) (.cons (Td.bool.up (Nat.zero_le _) (Nat.le_refl _)) .nil))))))).short (by decide) (by decide)
end
end LB

set_option maxRecDepth 100000
set_option maxHeartbeats 16000000
namespace LB
open PySem PySem.Spec PyProof.Rows L2 LamX
theorem Tabs.but {T : List (Addr × Str)} {b : Addr} {H H' : Hp} (B : Box H b) (U : But b H H') (t : Tabs T H) : Tabs T H' := fun p hp => by
  obtain ⟨_, _, _, hb, _⟩ := B
  obtain ⟨ps, h1, h2, h3⟩ := t p hp
  refine ⟨ps, U.k _ _ (fun z => by rw [z, hb] at h1; cases h1) h1, h2, fun pos cv hc => ?_⟩
  obtain ⟨c, e1, e2⟩ := h3 pos cv hc
  refine ⟨c, e1, U.k _ _ (fun z => ?_) e2⟩
  rw [z, hb] at e2
  exact absurd (Option.some.inj e2).symm (by unfold CodeO; intro z; cases z)
theorem Box.ext {b : Addr} {H H' : Hp} (B : Box H b) (e : ExtN H H') : Box H' b := by
  obtain ⟨l, ds, k, h, hl, r⟩ := B
  exact ⟨l, ds, k, e _ _ h (fun ps z => by cases z), e _ _ hl (fun ps z => by cases z), r⟩
/-- a task whose path is (0, 1, k) -/
def TkK (K : PySem.W.Frag) (H : Hp) (C : Addr) (k : Int) (u : V × Rw) : Prop := ∃ pa, SqT K H pa [.int 0, .int 1, .int k] ∧ TkR K H C u.1 (.ref pa) u.2
theorem TkK.ext {K : PySem.W.Frag} {H H' : Hp} {C : Addr} {k : Int} {u : V × Rw} (x : ExtN H H') (h : TkK K H C k u) : TkK K H' C k u := let ⟨pa, s, t⟩ := h; ⟨pa, ext_seqT x s, t.ext x⟩
theorem TkK.bn {K : PySem.W.Frag} {b : Addr} {H H' : Hp} {C : Addr} {k : Int} {u : V × Rw} (x : BN b H H') (o : OffB b H) (h : TkK K H C k u) : TkK K H' C k u := let ⟨pa, s, t⟩ := h; ⟨pa, x.seqT o s, t.bn x o⟩
theorem bn_put {D : Addr} {H : Hp} {o : HO} : BN D H (upd H D o) := fun a u n h _ => by rw [upd_ne n]; exact h
def Mo.Fine (m : Mo) : Prop := m.Ok ∧ Td m.d 1 20
theorem fine_wd {s : Str} (h1 : SeqAt.shaped (.str s) = true) (h2 : (s.cps.toList.all fun c => decide (c < 16 ^ 8)) = true) (h3 : s.cps.size ≤ 20) : (Mo.wd s).Fine := ⟨h1, (Td.str h2).up (Nat.zero_le _) h3⟩
theorem fine_pool {n : Int} (h : Sm n) : (Mo.pool n).Fine := ⟨ok_pool n, (Td.tup (.cons (Td.str (by decide)) (.cons ((Td.int h).up (Nat.zero_le _) (Nat.le_refl _)) .nil))).up (by decide) (by decide)⟩
theorem atI_k {xs : List V} {j : Nat} {v : V} (h : xs[j]? = some v) : atI xs (0 + (j : Int)) = some v := by
  rw [Int.zero_add]
  exact atI_nat h
def spLaw (K : PySem.W.Frag) (Pt : Addr) : Sp := fun vs H Q _ => ∃ (a : Addr) (ns : List Int), vs = [.ref a] ∧ SqL K H a (ns.map V.int) ∧ Tabs (lamT Pt) H ∧ ∀ H', Q (.bl true) H'
/-- the defs that law calls, as they stand -/
structure Defs (K : PySem.W.Frag) (mg : Str → Option Value) (base : Heap) (P : Program) (w : World) (Ct Cs Pt : Addr) : Prop where
  T : ClsT K Ct
  S : ClsS K Cs
  G : ∃ f fd, FnOk P w K mg base CX0 2 f fd ["script", "first", "last"] (spDigits K) ∧ mg "_law_digits" = some (.ref f) ∧ PySem.W.keepIn K (.ref f) = true ∧ Binds K fd ["script", "first", "last"] []
  D : ∃ f fd, FnOk P w K mg base CX0 1 f fd ["box", "many"] (spDraw K) ∧ mg "_law_draw" = some (.ref f) ∧ PySem.W.keepIn K (.ref f) = true ∧ Binds K fd ["box", "many"] []
  J : ∃ f fd, FnOk P w K mg base CX0 1 f fd psS (spSInit K Cs) ∧ Mk K Cs f ∧ mg "Scope" = some (.ref Cs) ∧ Binds K fd psS []
  E : ∃ f fd, FnOk P w K mg base CX0 2 f fd ["box", "path"] (spEnded K) ∧ mg "_law_ended" = some (.ref f) ∧ PySem.W.keepIn K (.ref f) = true ∧ Binds K fd ["box", "path"] []
  K_ : ∃ f fd, FnOk P w K mg base CX0 3 f fd ["row"] (spTask K Ct) ∧ mg "_law_task" = some (.ref f) ∧ PySem.W.keepIn K (.ref f) = true ∧ Binds K fd ["row"] []
  N : ∃ f fd, FnOk P w K mg base CX0 3 f fd ["scope", "tasks"] (spAns K Ct Cs Pt) ∧ mg "scope_answer" = some (.ref f) ∧ PySem.W.keepIn K (.ref f) = true ∧ Binds K fd ["scope", "tasks"] []
  Du : ∃ f fd, FnOk P w K mg base CX0 2 f fd ["mode", "late", "rows"] (spDue K) ∧ mg "_law_due" = some (.ref f) ∧ PySem.W.keepIn K (.ref f) = true ∧ Binds K fd ["mode", "late", "rows"] []
  C : ∃ f fd, FnOk P w K mg base CX0 1 f fd ["scope"] (spScopeF K Cs) ∧ mg "_law_scope_fields" = some (.ref f) ∧ PySem.W.keepIn K (.ref f) = true ∧ Binds K fd ["scope"] []
  F : ∃ f fd, FnOk P w K mg base CX0 1 f fd ["task"] (spFields K Ct) ∧ mg "_law_fields" = some (.ref f) ∧ PySem.W.keepIn K (.ref f) = true ∧ Binds K fd ["task"] []
  R : ∃ f fd, FnOk P w K mg base CX0 1 f fd ["task"] (spRest K Ct) ∧ mg "_law_rest" = some (.ref f) ∧ PySem.W.keepIn K (.ref f) = true ∧ Binds K fd ["task"] []
  V : ∃ f fd, FnOk P w K mg base CX0 3 f fd ["self"] (spDupS K Cs) ∧ Meth K Cs "duplicate" f ∧ Binds K fd ["self"] []
  U : ∃ f fd, FnOk P w K mg base CX0 3 f fd ["self"] (spDupT K Ct) ∧ Meth K Ct "duplicate" f ∧ Binds K fd ["self"] []
  A : ∃ f fd, FnOk P w K mg base CX0 1 f fd ["self"] (spAlive K Ct) ∧ Meth K Ct "is_alive" f ∧ Binds K fd ["self"] []
  L : ∃ f fd, FnG P w K mg base CX0 1 f fd ["one", "two"] (spAlike K) ∧ mg "_law_alike" = some (.ref f) ∧ PySem.W.keepIn K (.ref f) = true ∧ Binds K fd ["one", "two"] []
  W : ∃ f fd, FnG P w K mg base CX0 3 f fd ["box"] spNew ∧ mg "_law_new" = some (.ref f) ∧ PySem.W.keepIn K (.ref f) = true ∧ Binds K fd ["box"] []
  names : NamesK mg
section
variable {P : Program} {w : World} {K : PySem.W.Frag} {mg : Str → Option Value} {base : Heap}
theorem scLaw : FnScope ["script", "box", "turn", "many", "mode", "parts", "scope", "k", "rows", "tasks", "actual", "other", "row"] ["script"] (defScope sLaw) := ⟨rfl, rfl, rfl, by decide +kernel, rfl, by decide +kernel, by decide +kernel⟩
theorem ok_law {Ct Cs Pt f : Addr} {fd : FuncData} (F : Fun K "law" "law" sLaw f fd) (X : Defs K mg base P w Ct Cs Pt) : FnG P w K mg base CX0 4 f fd ["script"] (spLaw K Pt) := by
  obtain ⟨_, _, GG, mG, kG, bG⟩ := X.G
  obtain ⟨_, _, GD, mD, kD, bD⟩ := X.D
  obtain ⟨_, _, GJ, MS, mS, bJ⟩ := X.J
  obtain ⟨_, _, GE, mE, kE, bE⟩ := X.E
  obtain ⟨_, _, GK, mK, kK, bK⟩ := X.K_
  obtain ⟨_, _, GN, mN, kN, bN⟩ := X.N
  obtain ⟨_, _, GQ, mQ, kQ, bQ⟩ := X.Du
  obtain ⟨_, _, GC, mC, kC, bC⟩ := X.C
  obtain ⟨_, _, GF, mF, kF, bF⟩ := X.F
  obtain ⟨_, _, GR, mR, kR, bR⟩ := X.R
  obtain ⟨_, _, GV, hV, bV⟩ := X.V
  obtain ⟨_, _, GU, hU, bU⟩ := X.U
  obtain ⟨_, _, GA, hA, bA⟩ := X.A
  obtain ⟨_, _, GL, mL, kL, bL⟩ := X.L
  obtain ⟨_, _, GW, mW, kW, bW⟩ := X.W
  have M := X.names
  have clT := X.T.cl
  have clS := X.S.cl
  refine FnG.of_fun F scLaw (fun vs H Q E h => ?_) (fun cdv A outer s H vs Q E gf hr h => ?_)
  · obtain ⟨a, ns, rfl, _⟩ := h
    rfl
  · obtain ⟨a, ns, rfl, hS, hT, q⟩ := h
    have nd := scLaw.nd
    refine ⟨_, (pss_cons (ps_set (i := 1) nd rfl (Or.inr rfl) (pe_lst (pa_cons (pe_call GG (hr.mono (by decide)) rfl mG kG bG .nil pass0 (pa_cons (pv 0) (pa_cons pe_int (pa_cons pe_int pa_nil)))) (pa_cons pe_int pa_nil))))
        (pss_cons (ps_for PassesOwn.never rfl (pi_range1 (by rfl) M.range (pa_cons pe_int pa_nil)) (pg_name (i := 2) nd rfl (Or.inl rfl)) (pss_cons (ps_set (i := 3) nd rfl (Or.inl rfl) (pe_op op_add pe_int (pe_call GD (hr.mono (by decide)) rfl mD kD bD .nil pass0 (pa_cons (pv 1) (pa_cons pe_int pa_nil)))))
        (pss_cons (ps_set (i := 4) nd rfl (Or.inl rfl) (pe_ix ix_list (pe_lst (pa_cons pe_str (pa_cons pe_str (pa_cons pe_str (pa_cons pe_str (pa_cons (pe_tup (pa_cons pe_str (pa_cons (pe_op op_add pe_int (pe_call GD (hr.mono (by decide)) rfl mD kD bD .nil pass0 (pa_cons (pv 1) (pa_cons pe_int pa_nil)))) pa_nil))) pa_nil)))))) (pe_call GD (hr.mono (by decide)) rfl mD kD bD .nil pass0 (pa_cons (pv 1) (pa_cons pe_int pa_nil))) (fun _ _ => rfl)))
        (pss_cons (ps_set (i := 5) nd rfl (Or.inl rfl) (pe_lst (pa_cons (pe_tup (pa_cons pe_int (pa_cons pe_int pa_nil))) (pa_cons (pv 4) (pa_cons (pe_ix ix_list (pe_lst (pa_cons pe_non (pa_cons pe_int pa_nil))) (pe_call GD (hr.mono (by decide)) rfl mD kD bD .nil pass0 (pa_cons (pv 1) (pa_cons pe_int pa_nil))) (fun _ _ => rfl)) (pa_cons (pv 3) (pa_cons (pe_ix ix_list (pe_lst (pa_cons pe_non (pa_cons (pe_tup (pa_cons pe_int (pa_cons pe_int pa_nil))) pa_nil))) (pe_call GD (hr.mono (by decide)) rfl mD kD bD .nil pass0 (pa_cons (pv 1) (pa_cons pe_int pa_nil))) (fun _ _ => rfl)) (pa_cons (pe_cmpR op_eq (pe_call GD (hr.mono (by decide)) rfl mD kD bD .nil pass0 (pa_cons (pv 1) (pa_cons pe_int pa_nil))) pe_int (nomark _)) pa_nil))))))))
        (pss_cons (ps_set (i := 6) nd rfl (Or.inl rfl) (pe_make MS GJ (hr.mono (by decide)) rfl mS bJ .nil pass0 (pa_cons (pe_ix ix_list (pv 5) pe_int (fun _ _ => rfl)) (pa_cons (pe_ix ix_list (pv 5) pe_int (fun _ _ => rfl)) (pa_cons (pe_ix ix_list (pv 5) pe_int (fun _ _ => rfl)) (pa_cons (pe_ix ix_list (pv 5) pe_int (fun _ _ => rfl)) (pa_cons (pe_ix ix_list (pv 5) pe_int (fun _ _ => rfl)) (pa_cons (pe_ix ix_list (pv 5) pe_int (fun _ _ => rfl)) pa_nil))))))))
        (pss_cons (ps_setLc (i := 8) (own := [("k", 7)]) (g := (gName 7)) rfl nd rfl rfl (sw_true rfl rfl rfl (by decide +kernel)) (pi_range1 (by rfl) M.range (pa_cons (pv 3) pa_nil)) (blkOk_by (N := ["script", "box", "turn", "many", "mode", "parts", "scope", "k", "rows", "tasks", "actual", "other", "row"]) (sc := (defScope sLaw)) (by decide +kernel)) (fun _ _ _ _ _ => (pg_name (i := 7) nd rfl (Or.inl rfl))) (fun _ _ _ _ _ => pts_nil) (fun _ _ _ _ _ => (pe_call GE (hr.mono (by decide)) rfl mE kE bE .nil pass0 (pa_cons (pv 1) (pa_cons (pe_tup (pa_cons pe_int (pa_cons pe_int (pa_cons (pv 7) pa_nil)))) pa_nil)))))
        (pss_cons (ps_setLc (i := 9) (own := [("row", 12)]) (g := (gName 12)) rfl nd rfl rfl (sw_true rfl rfl rfl (by decide +kernel)) (pi_list (pv 8)) (blkOk_by (N := ["script", "box", "turn", "many", "mode", "parts", "scope", "k", "rows", "tasks", "actual", "other", "row"]) (sc := (defScope sLaw)) (by decide +kernel)) (fun _ _ _ _ _ => (pg_name (i := 12) nd rfl (Or.inl rfl))) (fun _ _ _ _ _ => pts_nil) (fun _ _ _ _ _ => (pe_call GK (hr.mono (by decide)) rfl mK kK bK .nil pass0 (pa_cons (pv 12) pa_nil))))
        (pss_cons (ps_set (i := 10) nd rfl (Or.inl rfl) (pe_call GN (hr.mono (by decide)) rfl mN kN bN .nil pass0 (pa_cons (pv 6) (pa_cons (pe_callTy call_list_of (by rfl) M.list (by decide +kernel) (pa_cons (pv 9) pa_nil)) pa_nil))))
        (pss_cons (ps_if (pt_not (pt_val (pe_callF gf GL (hr.mono (by decide)) rfl mL kL bL .nil pass0 (pa_cons (pv 10) (pa_cons (pe_call GQ (hr.mono (by decide)) rfl mQ kQ bQ .nil pass0 (pa_cons (pv 4) (pa_cons (pe_ix ix_list (pv 5) pe_int (fun _ _ => rfl)) (pa_cons (pv 8) pa_nil)))) pa_nil))))) (pss_one (ps_ret pe_bl)) pss_nil)
        (pss_cons (ps_if (PW.pt (pw_or (pt_not (pt_val (pe_callF gf GL (hr.mono (by decide)) rfl mL kL bL .nil pass0 (pa_cons (pe_call GC (hr.mono (by decide)) rfl mC kC bC .nil pass0 (pa_cons (pv 6) pa_nil)) (pa_cons (pv 5) pa_nil))))) (pw_or1 (pt_not (pt_val (pe_callF gf GL (hr.mono (by decide)) rfl mL kL bL .nil pass0 (pa_cons (pe_call GC (hr.mono (by decide)) rfl mC kC bC .nil pass0 (pa_cons (pe_meth0 (pv 6) clS hV GV (hr.mono (by decide)) bV .nil pass0) pa_nil)) (pa_cons (pv 5) pa_nil)))))))) (pss_one (ps_ret pe_bl)) pss_nil)
        (pss_one (ps_for PassesOwn.never rfl (pi_range1 (by rfl) M.range (pa_cons (pv 3) pa_nil)) (pg_name (i := 7) nd rfl (Or.inl rfl)) (pss_cons (ps_set (i := 11) nd rfl (Or.inl rfl) (pe_meth0 (pe_ix ix_list (pv 9) (pv 7) (fun _ _ => rfl)) clT hU GU (hr.mono (by decide)) bU .nil pass0))
        (pss_cons (ps_if (PW.pt (pw_or (pt_not (pt_val (pe_callF gf GL (hr.mono (by decide)) rfl mL kL bL .nil pass0 (pa_cons (pe_call GF (hr.mono (by decide)) rfl mF kF bF .nil pass0 (pa_cons (pe_ix ix_list (pv 9) (pv 7) (fun _ _ => rfl)) pa_nil)) (pa_cons (pe_ix ix_list (pv 8) (pv 7) (fun _ _ => rfl)) pa_nil))))) (pw_or1 (pt_not (pt_val (pe_callF gf GL (hr.mono (by decide)) rfl mL kL bL .nil pass0 (pa_cons (pe_call GF (hr.mono (by decide)) rfl mF kF bF .nil pass0 (pa_cons (pv 11) pa_nil)) (pa_cons (pe_ix ix_list (pv 8) (pv 7) (fun _ _ => rfl)) pa_nil)))))))) (pss_one (ps_ret pe_bl)) pss_nil)
        (pss_one (ps_if (PW.pt (pw_or (pt_cmpR op_isnot_bl (pe_meth0 (pv 11) clT hA GA (hr.mono (by decide)) bA .nil pass0) pe_bl (nomark _)) (pw_or1 (pt_not (pt_val (pe_callF gf GL (hr.mono (by decide)) rfl mL kL bL .nil pass0 (pa_cons (pe_call GR (hr.mono (by decide)) rfl mR kR bR .nil pass0 (pa_cons (pv 11) pa_nil)) (pa_cons (pe_lst (pa_cons pe_int (pa_cons pe_int (pa_cons pe_non (pa_cons pe_non (pa_cons pe_bl pa_nil)))))) pa_nil)))))))) (pss_one (ps_ret pe_bl)) pss_nil))))))))))))))))
        (pss_one (ps_ret (pe_callF gf GW (hr.mono (by decide)) rfl mW kW bW .nil pass0 (pa_cons (pv 1) pa_nil)))))), ?_⟩
    refine ⟨_, rfl, a, ns, 0, 63, rfl, hS, by decide, by decide, by decide, fun ds H1 l s1 nl hl hd hlen => ⟨(by show 2 ≤ sizeLine; decide), fun b nb => ?_⟩⟩
    have B0 : Box (upd H1 b (.lst [.ref l, .int 0])) b := ⟨l, ds, 0, upd_same, by rw [upd_ne (ne_of_none hl nb)]; exact hl, (ne_of_none hl nb).symm, by decide, hlen⟩
    have T0 : Tabs (lamT Pt) (upd H1 b (.lst [.ref l, .int 0])) := hT.ext (s1.trans (same_new nb))
    refine ⟨10, rfl, by decide, by decide, for_range (n := 10) (fun m σ H' => ∃ (v2 v3 v4 v5 v6 v7 v8 v9 v10 v11 : Option V), σ = [some (.ref a), some (.ref b), v2, v3, v4, v5, v6, v7, v8, v9, v10, v11, none] ∧ Box H' b ∧ Tabs (lamT Pt) H')
      ⟨none, none, none, none, none, none, none, none, none, none, rfl, B0, T0⟩ ?_ ?_⟩
    rotate_left
    · rintro σ H2 ⟨v2, v3, v4, v5, v6, v7, v8, v9, v10, v11, rfl, B2, _⟩
      exact ⟨_, rfl, b, rfl, B2, q⟩
    clear B0 T0 hS hT hl hd hlen nb nl s1
    rintro m σ H0 hm ⟨v2, v3, v4, v5, v6, v7, v8, v9, v10, v11, rfl, B0, T0⟩
    refine ⟨_, rfl, b, 6, rfl, B0, by decide, fun r H1 r0 r1 B1 U1 => ⟨_, _, rfl, rfl, ?_⟩⟩
    have T1 := Tabs.but B0 U1 T0
    clear B0 T0 U1
    -- mode
    refine ⟨_, rfl, b, 3, rfl, B1, by decide, fun x H2 x0 x1 B2 U2 => ⟨_, _, rfl, rfl, (by show 2 ≤ sizeLine; decide), fun p np => ⟨(by show 5 ≤ sizeLine; decide), fun lm nlm => ?_⟩⟩⟩
    have B3 := B2.new (o := .tup [.str "pool", .int (1 + x)]) np
    have B4 := B3.new (o := .lst [.str "all", .str "race", .str "any", .str "single", .ref p]) nlm
    have T4 := (Tabs.but B1 U2 T1).ext ((same_new (o := .tup [.str "pool", .int (1 + x)]) np).trans (same_new (o := .lst [.str "all", .str "race", .str "any", .str "single", .ref p]) nlm))
    have hpool : SqT K _ p [.str "pool", .int (1 + x)] := SqT.of (same_new (o := .lst [.str "all", .str "race", .str "any", .str "single", .ref p]) nlm _ _ (upd_same (H := H2) (a := p) (o := .tup [.str "pool", .int (1 + x)])))
    refine ⟨_, rfl, b, 5, rfl, B4, by decide, fun y H5 y0 y1 B5 U5 => ?_⟩
    have hlm := B3.keepL nlm U5
    have hpool := B4.tup U5 hpool
    have T5 := Tabs.but B4 U5 T4
    obtain ⟨mv, mo, emv, hmo, fmo⟩ : ∃ (mv : V) (mo : Mo), atI [V.str "all", .str "race", .str "any", .str "single", .ref p] y = some mv ∧ MoAt K H5 mv mo ∧ mo.Fine := by
      have c : y = 0 ∨ y = 1 ∨ y = 2 ∨ y = 3 ∨ y = 4 := by omega
      rcases c with rfl | rfl | rfl | rfl | rfl
      · exact ⟨_, .wd "all", rfl, rfl, fine_wd (by decide +kernel) (by decide) (by decide)⟩
      · exact ⟨_, .wd "race", rfl, rfl, fine_wd (by decide +kernel) (by decide) (by decide)⟩
      · exact ⟨_, .wd "any", rfl, rfl, fine_wd (by decide +kernel) (by decide) (by decide)⟩
      · exact ⟨_, .wd "single", rfl, rfl, fine_wd (by decide +kernel) (by decide) (by decide)⟩
      · exact ⟨_, .pool (1 + x), rfl, ⟨p, rfl, hpool⟩, fine_pool (Sm.of (by omega) (by omega))⟩
    refine ⟨lm, _, _, _, rfl, rfl, SqL.of hlm, emv, ?_⟩
    clear hpool hlm emv B1 B2 B3 B4 T1 T4 U2 U5 nlm np
    -- parts
    refine ⟨(by show 2 ≤ sizeLine; decide), fun p0 np0 => ⟨_, rfl, (by show 2 ≤ sizeLine; decide), fun l1 nl1 => ?_⟩⟩
    have Sa := same_new (o := .tup [V.int 0, .int 1]) np0
    have Sb := same_new (o := .lst [V.non, .int 7]) nl1
    have h0 : SqT K _ p0 [.int 0, .int 1] := SqT.of (Sb _ _ (upd_same (H := H5) (a := p0) (o := .tup [V.int 0, .int 1])))
    have B6 := (B5.new (o := .tup [V.int 0, .int 1]) np0).new (o := .lst [V.non, .int 7]) nl1
    have T6 := T5.ext (Sa.trans Sb)
    have hmo6 := hmo.ext (ExtN.of (Sa.trans Sb))
    refine ⟨_, rfl, b, 2, rfl, B6, by decide, fun i H6 i0 i1 B7 U7 => ?_⟩
    have hl1 := (B5.new (o := .tup [V.int 0, .int 1]) np0).keepL nl1 U7
    have h0 := B6.tup U7 h0
    have T7 := Tabs.but B6 U7 T6
    have hmo7 := hmo6.bn (BN.but U7) B6.offB
    obtain ⟨dv, dd, edv, hdv, tdd⟩ : ∃ (dv : V) (dd : PyData), atI [V.non, .int 7] i = some dv ∧ (∀ H, Dp K H dv dd) ∧ Td dd 1 10 := by
      have c : i = 0 ∨ i = 1 := by omega
      rcases c with rfl | rfl
      · exact ⟨_, .none, rfl, fun _ => .non, Td.non.up (by decide) (by decide)⟩
      · exact ⟨_, .int 7, rfl, fun _ => .int _, (Td.int (Sm.of (by decide) (by decide))).up (by decide) (by decide)⟩
    refine ⟨l1, _, _, _, rfl, rfl, SqL.of hl1, edv, _, rfl, (by show 2 ≤ sizeLine; decide), fun p5 np5 => ⟨(by show 2 ≤ sizeLine; decide), fun l2 nl2 => ?_⟩⟩
    clear Sa Sb B5 B6 T5 T6 hmo hmo6 U7 hl1 edv nl1 np0
    have Sa := same_new (o := .tup [V.int 5, .int 1]) np5
    have Sb := same_new (o := .lst [V.non, .ref p5]) nl2
    have B8 := (B7.new (o := .tup [V.int 5, .int 1]) np5).new (o := .lst [V.non, .ref p5]) nl2
    have h0 := sqT_same (Sa.trans Sb) h0
    have hmo8 := hmo7.ext (ExtN.of (Sa.trans Sb))
    have T8 := T7.ext (Sa.trans Sb)
    have h5 : SqT K _ p5 [.int 5, .int 1] := SqT.of (Sb _ _ (upd_same (H := H6) (a := p5) (o := .tup [V.int 5, .int 1])))
    refine ⟨_, rfl, b, 2, rfl, B8, by decide, fun j H7 j0 j1 B9 U9 => ?_⟩
    have hl2 := (B7.new (o := .tup [V.int 5, .int 1]) np5).keepL nl2 U9
    have h0 := B8.tup U9 h0
    have h5 := B8.tup U9 h5
    have T9 := Tabs.but B8 U9 T8
    have hmo9 := hmo8.bn (BN.but U9) B8.offB
    obtain ⟨cv, co, ecv, hcv, tco⟩ : ∃ (cv : V) (co : Option Ins), atI [V.non, .ref p5] j = some cv ∧ At K H7 cv co ∧ Td (dIns co) 1 10 := by
      have c : j = 0 ∨ j = 1 := by omega
      rcases c with rfl | rfl
      · exact ⟨_, none, rfl, rfl, td_ins fun p e => by cases e⟩
      · exact ⟨_, some (5, 1), rfl, ⟨p5, rfl, h5⟩, td_ins fun p e => by cases e; exact ⟨Sm.of (by decide) (by decide), sm1⟩⟩
    refine ⟨l2, _, _, _, rfl, rfl, SqL.of hl2, ecv, ?_⟩
    clear Sa Sb B7 B8 T7 T8 hmo7 hmo8 U9 hl2 ecv nl2 np5 h5
    refine ⟨_, rfl, b, 4, rfl, B9, by decide, fun z H8 z0 z1 B10 U10 => ⟨rfl, (by show 6 ≤ sizeLine; decide), fun lp nlp => ?_⟩⟩
    generalize decide (V.int z = V.int 0) = late
    have Sa := same_new (o := .lst [V.ref p0, mv, dv, .int (1 + r), cv, .bl late]) nlp
    have B11 := B10.new (o := .lst [V.ref p0, mv, dv, .int (1 + r), cv, .bl late]) nlp
    have T11 := (Tabs.but B9 U10 T9).ext Sa
    have h0 := sqT_same Sa (B9.tup U10 h0)
    have hmo11 := (hmo9.bn (BN.but U10) B9.offB).ext (ExtN.of Sa)
    have hcv := (hcv.but B9 U10).same Sa
    have hlp : upd H8 lp (.lst [V.ref p0, mv, dv, .int (1 + r), cv, .bl late]) lp = _ := upd_same
    generalize upd H8 lp (.lst [V.ref p0, mv, dv, .int (1 + r), cv, .bl late]) = H9 at *
    clear Sa B9 B10 T9 hmo9 U10 nlp
    -- scope
    refine ⟨_, rfl, lp, _, _, _, rfl, rfl, SqL.of hlp, rfl, _, rfl, lp, _, _, _, rfl, rfl, SqL.of hlp, rfl, _, rfl, lp, _, _, _, rfl, rfl, SqL.of hlp, rfl, _, rfl, lp, _, _, _, rfl, rfl, SqL.of hlp, rfl, _, rfl, lp, _, _, _, rfl, rfl, SqL.of hlp, rfl, _, rfl, lp, _, _, _, rfl, rfl, SqL.of hlp, rfl, fun sx dx nx ndx ne => ?_⟩
    refine ⟨sx, dx, _, _, _, _, _, _, rfl, upd_same, fun fs H10 fr hx sf => ⟨rfl, ?_⟩⟩
    have Sa := same_make nx ndx ne fr
    have hs : ScAt K H10 Cs (.ref sx) (.ref p0) mv dv (.int (1 + r)) cv (.bl late) := ⟨sx, dx, fs, rfl, hx, sf⟩
    have B12 := B11.same Sa
    have T12 := T11.ext Sa
    have h0 := sqT_same Sa h0
    have hmo12 := hmo11.ext (ExtN.of Sa)
    have hcv := hcv.same Sa
    have hlp := Sa _ _ hlp
    clear Sa B11 T11 hmo11 nx ndx ne fr hx
    -- rows
    refine ⟨_, rfl, _, rfl, by omega, by omega, fun D nD => ?_⟩
    have fD : H10 D = none := nD
    have db : D ≠ b := B12.apart nD
    refine lc_range (n := (1 + r).toNat) (fun j H' => ∃ ts : List (V × Rw), H' D = some (.lst (ts.map (·.1))) ∧ ts.length = j ∧ (∀ (i : Nat) (t : V × Rw), ts[i]? = some t → RwB t.2 ∧ RwK K H' (0 + (i : Int)) t ∧ t.1 ≠ .ref D ∧ t.1 ≠ .ref b) ∧ Box H' b ∧ But b H10 H')
      ⟨[], upd_same, rfl, fun i t h => (by simp at h), B12.new nD, (But.refl b H10).new nD⟩ ?_ ?_
    · rintro j H11 hj ⟨ts, hD, hlen, hts, B13, U13⟩
      refine ⟨rfl, _, rfl, _, rfl, (by show 3 ≤ sizeLine; decide), fun p np => ⟨b, .ref p, rfl, B13.new np, fun ar R H13 na B14 U14 rb ra => ?_⟩⟩
      have Sa := same_new (o := .tup [V.int 0, .int 1, .int (0 + (j : Int))]) np
      have hDp : upd H11 p (.tup [V.int 0, .int 1, .int (0 + (j : Int))]) D = some (.lst (ts.map (·.1))) := Sa _ _ hD
      have hD13 := U14.k D _ db hDp
      have U15 := (U13.new (o := .tup [V.int 0, .int 1, .int (0 + (j : Int))]) np).trans U14
      have aD : ar ≠ D := fun z => by rw [z, hDp] at na; cases na
      have ab : ar ≠ b := fun z => by
        obtain ⟨_, _, _, h, _⟩ := B13.new (o := .tup [V.int 0, .int 1, .int (0 + (j : Int))]) np
        rw [z, h] at na
        cases na
      have oD : OffB D H13 := ⟨_, hD13⟩
      refine ⟨_, hD13, ?_, ts ++ [(.ref ar, R)], ?_, ?_, fun i t ht => ?_, (Box.put B12 B14 U15 fD).1, (Box.put B12 B14 U15 fD).2⟩
      · rw [List.length_map]
        exact small_line (by omega)
      · exact upd_same.trans (by rw [List.map_append]; rfl)
      · rw [List.length_append, hlen]; rfl
      · by_cases hi : i < ts.length
        · rw [List.getElem?_append_left hi] at ht
          obtain ⟨a1, a2, a3, a4⟩ := hts i t ht
          exact ⟨a1, ((a2.ext (ExtN.of Sa)).bn (BN.but U14) (B13.new np).offB a4).bn bn_put oD a3, a3, a4⟩
        · have hi2 : i = ts.length := by
            have := (List.getElem?_eq_some_iff.mp ht).1
            rw [List.length_append] at this
            have : i < ts.length + 1 := this
            omega
          rw [hi2, List.getElem?_append_right (Nat.le_refl _), Nat.sub_self] at ht
          cases ht
          rw [hi2, hlen]
          have sp : SqT K H13 p [.int 0, .int 1, .int (0 + (j : Int))] := (B13.new np).tup U14 (SqT.of upd_same)
          have nD1 : V.ref ar ≠ V.ref D := fun z => aD (V.ref.inj z)
          exact ⟨rb, (show RwK K H13 (0 + (j : Int)) (V.ref ar, R) from ⟨p, sp, ra⟩).bn bn_put oD nD1, nD1, fun z => ab (V.ref.inj z)⟩
    rintro H11 ⟨ts, hD, hlen, hts, B13, U13⟩
    have hs := hs.bn (BN.but U13) B12.offB
    have h0 := B12.tup U13 h0
    have hmo13 := hmo12.bn (BN.but U13) B12.offB
    have hcv := hcv.but B12 U13
    have T13 := Tabs.but B12 U13 T12
    have hlp := U13.k _ _ (fun z => by
      obtain ⟨_, _, _, h, _⟩ := B12
      rw [z, h] at hlp
      injection hlp with e
      injection e with e
      injection e with _ e
      injection e with _ e
      cases e) hlp
    clear B12 T12 hmo12 U13 nD fD db
    -- tasks
    have hD0 : SqL K H11 D (ts.map (·.1)) := SqL.of hD
    refine ⟨_, rfl, D, rfl, ⟨_, hD0⟩, fun D2 nD2 => ?_⟩
    refine lc_list (K := K) (xs := ts.map (·.1)) (fun j H' => Same H11 H' ∧ ∃ us : List (V × Rw), H' D2 = some (.lst (us.map (·.1))) ∧ us.map (·.2) = (ts.take j).map (·.2) ∧ ∀ (i : Nat) (u : V × Rw), us[i]? = some u → TkK K H' Ct (0 + (i : Int)) u)
      ⟨same_new nD2, [], upd_same, rfl, fun i u h => by simp at h⟩ (fun j H' _ h => sqL_same h.1 hD0) ?_ ?_
    · rintro j y H12 hy ⟨S12, us, hD2, eu, hus⟩
      obtain ⟨t, ht, rfl⟩ := map_at2 hy
      obtain ⟨rb, rk, _, _⟩ := hts j t ht
      obtain ⟨pa, sp, ra⟩ := rk.ext (ExtN.of S12)
      have ul : us.length = j := by
        have := congrArg List.length eu
        rw [List.length_map, List.length_map, List.length_take] at this
        have := (List.getElem?_eq_some_iff.mp ht).1
        omega
      refine ⟨rfl, _, rfl, _, .ref pa, t.2, rfl, ra, fun x H13 S13 tk => ?_⟩
      have hD3 := S13 _ _ hD2
      have oD : OffB D2 H13 := ⟨_, hD3⟩
      refine ⟨_, hD3, ?_, ?_, us ++ [(x, t.2)], ?_, ?_, fun i u hu => ?_⟩
      · rw [List.length_map]
        exact small_line (by have := (List.getElem?_eq_some_iff.mp ht).1; omega)
      · exact same_upd (S12.trans S13) nD2
      · exact upd_same.trans (by rw [List.map_append]; rfl)
      · rw [List.map_append, eu, takeS ht, List.map_append]
        rfl
      · by_cases hi : i < us.length
        · rw [List.getElem?_append_left hi] at hu
          exact ((hus i u hu).ext (ExtN.of S13)).bn bn_put oD
        · have hi2 : i = us.length := by
            have := (List.getElem?_eq_some_iff.mp hu).1
            rw [List.length_append] at this
            have : i < us.length + 1 := this
            omega
          rw [hi2, List.getElem?_append_right (Nat.le_refl _), Nat.sub_self] at hu
          cases hu
          rw [hi2, ul]
          exact (show TkK K H13 Ct (0 + (j : Int)) (x, t.2) from ⟨pa, sqT_same S13 sp, tk⟩).bn bn_put oD
    rintro H12 ⟨S12, us, hD2, eu, hus⟩
    rw [List.length_map, List.take_length] at eu
    have ul : us.length = ts.length := by
      have := congrArg List.length eu
      rw [List.length_map, List.length_map] at this
      exact this
    have hs := hs.ext (ExtN.of S12)
    have h0 := sqT_same S12 h0
    have hmo14 := hmo13.ext (ExtN.of S12)
    have hcv := hcv.same S12
    have T14 := T13.ext S12
    have hlp := S12 _ _ hlp
    have hD := S12 _ _ hD
    have B14 := B13.same S12
    have hts : ∀ (i : Nat) (t : V × Rw), ts[i]? = some t → RwB t.2 ∧ RwK K H12 (0 + (i : Int)) t := fun i t ht => let ⟨a1, a2, _, _⟩ := hts i t ht; ⟨a1, a2.ext (ExtN.of S12)⟩
    clear S12 B13 T13 hmo13 hD0 nD2
    have small : ts.length ≤ 6 := by omega
    have rwb : ∀ t ∈ ts, RwB t.2 := fun t ht => let ⟨i, hi⟩ := List.getElem?_of_mem ht; (hts i t hi).1
    have rwb2 : ∀ R ∈ ts.map (·.2), RwB R := fun R hR => by
      obtain ⟨t, ht, rfl⟩ := List.mem_map.mp hR
      exact rwb t ht
    -- the answer
    refine ⟨_, rfl, _, rfl, D2, _, rfl, .inl (SqL.of hD2), fun L nL => ?_⟩
    have Sa := same_new (o := .lst (us.map (·.1))) nL
    refine ⟨_, .ref p0, mv, dv, .int (1 + r), cv, late, mo, L, us, rfl, T14.ext Sa, hs.ext (ExtN.of Sa), hmo14.ext (ExtN.of Sa), fmo.1, SqL.of upd_same, by omega, fun u hu => ?_, fun av H13 e13 T15 dav => ?_⟩
    · obtain ⟨i, hi⟩ := List.getElem?_of_mem hu
      obtain ⟨pa, _, tk⟩ := (hus i u hi).ext (ExtN.of Sa)
      refine ⟨⟨_, tk⟩, ?_⟩
      have hR : u.2 ∈ ts.map (·.2) := by rw [← eu]; exact List.mem_map.mpr ⟨u, hu, rfl⟩
      have := (rwb2 _ hR).len
      omega
    rw [eu] at dav
    have x13 := (ExtN.of Sa).trans e13
    have hs := hs.ext x13
    have h0 := ext_seqT x13 h0
    have hmo15 := hmo14.ext x13
    have hcv := ext_at x13 hcv
    have hlp := x13 _ _ hlp (fun ps z => by cases z)
    have hD := x13 _ _ hD (fun ps z => by cases z)
    have hD2 := x13 _ _ hD2 (fun ps z => by cases z)
    have B15 := B14.ext x13
    have hts : ∀ (i : Nat) (t : V × Rw), ts[i]? = some t → RwB t.2 ∧ RwK K H13 (0 + (i : Int)) t := fun i t ht => let ⟨a1, a2⟩ := hts i t ht; ⟨a1, a2.ext x13⟩
    have hus : ∀ (i : Nat) (u : V × Rw), us[i]? = some u → TkK K H13 Ct (0 + (i : Int)) u := fun i u hu => (hus i u hu).ext x13
    clear x13 e13 Sa nL B14 T14 hmo14
    -- what is due
    refine ⟨_, rfl, _, rfl, _, rfl, lp, _, _, _, rfl, rfl, SqL.of hlp, rfl, _, rfl, mv, late, mo, D, ts, rfl, hmo15, fmo.1, ⟨SqL.of hD, by omega, fun t ht => ?_⟩, fun dv2 H14 S14 ddv => ?_⟩
    · obtain ⟨i, hi⟩ := List.getElem?_of_mem ht
      obtain ⟨h1, h2⟩ := hts i t hi
      exact ⟨h1, _, h2⟩
    refine ⟨_, _, _, rfl, dp_same S14 dav, ddv, td_ans rwb2 (by rw [List.length_map]; omega), _, rfl, iteF ?_⟩
    have hs := hs.ext (ExtN.of S14)
    have h0 := sqT_same S14 h0
    have hmo16 := hmo15.ext (ExtN.of S14)
    have hcv := hcv.same S14
    have hlp := S14 _ _ hlp
    have hD := S14 _ _ hD
    have hD2 := S14 _ _ hD2
    have B16 := B15.same S14
    have T16 := T15.ext S14
    have hts : ∀ (i : Nat) (t : V × Rw), ts[i]? = some t → RwB t.2 ∧ RwK K H14 (0 + (i : Int)) t := fun i t ht => let ⟨a1, a2⟩ := hts i t ht; ⟨a1, a2.ext (ExtN.of S14)⟩
    have hus : ∀ (i : Nat) (u : V × Rw), us[i]? = some u → TkK K H14 Ct (0 + (i : Int)) u := fun i u hu => (hus i u hu).ext (ExtN.of S14)
    clear S14 B15 T15 hmo15 dav ddv
    -- the scope's fields
    have dsc : ∀ H', Same H14 H' → DpAll K H' [V.ref p0, mv, dv, .int (1 + r), cv, .bl late] [.tuple [.int 0, .int 1], mo.d, dd, .int (1 + r), dIns co, .bool late] := fun H' S' =>
      .cons (.tup (sqT_same S' h0) (.cons (.int _) (.cons (.int _) .nil))) (.cons (hmo16.ext (ExtN.of S')).dp (.cons (hdv H') (.cons (.int _) (.cons (hcv.same S').dp (.cons (.bl _) .nil)))))
    have tsc : Short (.list [.tuple [.int 0, .int 1], mo.d, dd, .int (1 + r), dIns co, .bool late]) :=
      (Td.lst (TdA.cons ((Td.tup (.cons (.int sm0) (.cons (.int sm1) .nil))).up (Nat.le_refl 1) (Nat.le_refl _)) (.cons fmo.2 (.cons tdd (.cons ((Td.int (Sm.of (by omega) (by omega))).up (Nat.zero_le _) (Nat.le_refl _)) (.cons tco (.cons (Td.bool.up (Nat.zero_le _) (Nat.le_refl _)) .nil))))))).short (by decide) (by decide)
    refine ⟨_, rfl, _, _, _, _, _, _, _, rfl, hs, fun l3 H15 S15 hl3 => ⟨_, rfl, _, _, _, rfl, .lst (SqL.of hl3) (dsc _ S15), .lst (SqL.of (S15 _ _ hlp)) (dsc _ S15), tsc, _, rfl, iteF ?_⟩⟩
    obtain ⟨sx', dx', fs', esx, hsx, sf'⟩ := hs.ext (ExtN.of S15)
    cases esx
    refine ⟨_, rfl, sx, dx', fs', rfl, hsx, sf'.nd, _, _, _, _, _, _, _, rfl, ⟨sx, dx', fs', rfl, hsx, sf'⟩, fun y2 H16 S16 hs2 => ?_⟩
    refine ⟨_, _, _, _, _, _, _, rfl, hs2, fun l4 H17 S17 hl4 => ⟨_, rfl, _, _, _, rfl, .lst (SqL.of hl4) (dsc _ ((S15.trans S16).trans S17)), .lst (SqL.of (((S15.trans S16).trans S17) _ _ hlp)) (dsc _ ((S15.trans S16).trans S17)), tsc, _, rfl, iteF ?_⟩⟩
    have S18 := (S15.trans S16).trans S17
    have hD := S18 _ _ hD
    have hD2 := S18 _ _ hD2
    have B18 := B16.same S18
    have T18 := T16.ext S18
    have hts : ∀ (i : Nat) (t : V × Rw), ts[i]? = some t → RwB t.2 ∧ RwK K H17 (0 + (i : Int)) t := fun i t ht => let ⟨a1, a2⟩ := hts i t ht; ⟨a1, a2.ext (ExtN.of S18)⟩
    have hus : ∀ (i : Nat) (u : V × Rw), us[i]? = some u → TkK K H17 Ct (0 + (i : Int)) u := fun i u hu => (hus i u hu).ext (ExtN.of S18)
    clear S18 S15 S16 S17 B16 T16 dsc tsc hs h0 hmo16 hcv hlp hs2 hl3 hl4 hsx sf' sf
    -- each task and its duplicate
    refine ⟨_, rfl, _, rfl, by omega, by omega, for_range (n := (1 + r).toNat) (fun j σ H' => ∃ (v2 v3 v4 v5 v6 v7 v10 v11 : Option V), σ = [some (.ref a), some (.ref b), v2, v3, v4, v5, v6, v7, some (.ref D), some (.ref D2), v10, v11, none] ∧ Same H17 H')
      ⟨_, _, _, _, _, _, _, _, rfl, Same.refl _⟩ ?_ ?_⟩
    · rintro j σ H18 hj ⟨v2, v3, v4, v5, v6, v7, v10, v11, rfl, S18⟩
      have ht := List.getElem?_eq_getElem (show j < ts.length by omega)
      have hu := List.getElem?_eq_getElem (show j < us.length by omega)
      generalize ts[j]'(by omega) = t at ht
      generalize us[j]'(by omega) = u at hu
      have e2 : u.2 = t.2 := by
        have h1 : (us.map (·.2))[j]? = some u.2 := by rw [List.getElem?_map, hu]; rfl
        rw [eu, List.getElem?_map, ht] at h1
        exact (Option.some.inj h1).symm
      have au : atI (us.map (·.1)) (0 + (j : Int)) = some u.1 := atI_k (by rw [List.getElem?_map, hu]; rfl)
      have at' : atI (ts.map (·.1)) (0 + (j : Int)) = some t.1 := atI_k (by rw [List.getElem?_map, ht]; rfl)
      obtain ⟨rb, rk⟩ := hts j t ht
      obtain ⟨pa, sp, e, rr, mm, tk, sx6⟩ := hus j u hu
      rw [e2] at tk sx6
      have td := td_row (k := 0 + (j : Int)) (Sm.of (by omega) (by omega)) rb
      have tdS := td.short (by decide) (by decide)
      have fd : ∀ (l : Addr) (H' : Hp), Same H17 H' → H' l = some (.lst [.ref pa, .int t.2.pl, .str "finished", e, .str t.2.oc, rr, mm]) → Dp K H' (.ref l) (dRow (0 + (j : Int)) t.2) := fun l H' S' hl => row_dp (sqT_same S' sp) (sx6.ext (ExtN.of S')) (SqL.of hl)
      have rd : ∀ H', Same H17 H' → Dp K H' t.1 (dRow (0 + (j : Int)) t.2) := fun H' S' => (rk.ext (ExtN.of S')).dp
      obtain ⟨tx, tdx, tfs, etx, htx, tf⟩ := id tk
      have htx18 := S18 _ _ htx
      refine ⟨_, rfl, _, rfl, D2, _, _, _, rfl, rfl, SqL.of (S18 _ _ hD2), au, tx, tdx, tfs, etx, htx18, tf.nd, _, _, _, _, _, _, _, _, rfl, tk.ext (ExtN.of S18), fun y H19 S19 ty => ?_⟩
      have S19 := S18.trans S19
      refine ⟨_, rfl, _, rfl, D2, _, _, _, rfl, rfl, SqL.of (S19 _ _ hD2), au, _, _, _, _, _, _, _, _, rfl, tk.ext (ExtN.of S19), fun l1 H20 S20 hl1 => ?_⟩
      have S20' := S19.trans S20
      refine ⟨_, rfl, _, rfl, D, _, _, _, rfl, rfl, SqL.of (S20' _ _ hD), at', _, _, _, rfl, fd _ _ S20' hl1, rd _ S20', tdS, _, rfl, iteF ?_⟩
      have ty20 := ty.ext (ExtN.of S20)
      refine ⟨_, rfl, _, _, _, _, _, _, _, _, rfl, ty20, fun l2 H21 S21 hl2 => ?_⟩
      have S21' := S20'.trans S21
      refine ⟨_, rfl, _, rfl, D, _, _, _, rfl, rfl, SqL.of (S21' _ _ hD), at', _, _, _, rfl, fd _ _ S21' hl2, rd _ S21', tdS, _, rfl, iteF ?_⟩
      have ty21 := ty20.ext (ExtN.of S21)
      obtain ⟨yx, ydx, yfs, eyx, hyx, yf⟩ := id ty21
      refine ⟨_, rfl, yx, ydx, yfs, eyx, hyx, yf.na, _, _, _, _, _, _, _, _, rfl, ty21, ?_⟩
      have ne : decide (e = V.non) = false := by
        obtain ⟨ae, ee, _⟩ := sx6.en
        rw [ee]
        exact decide_eq_false (fun z => by cases z)
      rw [ne]
      refine ⟨_, _, rfl, rfl, _, rfl, iteF ?_⟩
      refine ⟨_, rfl, _, _, _, _, _, _, _, _, rfl, ty21, fun l3 H22 S22 hl3 => ⟨(by show 5 ≤ sizeLine; decide), fun l4 nl4 => ?_⟩⟩
      have S23 := same_new (o := .lst [V.int 0, .int 0, .non, .non, .bl false]) nl4
      have db : DpAll K (upd H22 l4 (.lst [V.int 0, .int 0, .non, .non, .bl false])) [V.int 0, .int 0, .non, .non, .bl false] [.int 0, .int 0, .none, .none, .bool false] := .cons (.int _) (.cons (.int _) (.cons .non (.cons .non (.cons (.bl _) .nil))))
      refine ⟨_, _, _, rfl, .lst (SqL.of (S23 _ _ hl3)) db, .lst (SqL.of upd_same) db, .of (by decide +kernel) (by decide +kernel) (by decide +kernel) (by decide +kernel) (by decide +kernel), _, rfl, iteF ?_⟩
      exact ⟨_, _, _, _, _, _, _, _, rfl, (S21'.trans S22).trans S23⟩
    · rintro σ H18 ⟨v2, v3, v4, v5, v6, v7, v10, v11, rfl, S18⟩
      exact ⟨_, _, _, _, _, _, _, _, _, _, rfl, B18.same S18, T18.ext S18⟩
end
end LB

set_option maxRecDepth 100000
set_option maxHeartbeats 8000000
namespace LB
open PySem PySem.Spec PyProof.Rows L2 LamX
section
variable {K : PySem.W.Frag} {f : Addr} {fd : FuncData}
theorem vals_nil {ds : List Value} (h : Vals ([] : List V) ds) : ds = [] := by
  cases h
  rfl
theorem tinit_binds (F : FunD K "__init__" "Task.__init__" (defArgs tsInit) (defBody tsInit) (defScope tsInit) dvT [] f fd) : Binds K fd psT [] ∧ ∃ ds, Vals dvT ds ∧ Binds K fd psT ds := by
  constructor
  · obtain ⟨ds, h1, h2⟩ := F.binds1 (ps := psT) 8 5 (by decide) (by decide) fun _ _ _ _ _ _ _ us its h1 h2 => match us, its, h1, h2 with
      | [_, _, _, _, _, _, _, _], [_, _, _, _, _], _, _ => ⟨_, rfl, rfl⟩
    cases vals_nil h1
    exact h2
  · exact F.binds1 (ps := psT) 3 0 (by decide) (by decide) fun _ _ _ _ _ _ _ us its h1 h2 => match us, its, h1, h2 with
      | [_, _, _], [_, _, _, _, _], _, _ => ⟨_, rfl, rfl⟩
theorem sinit_binds (F : FunD K "__init__" "Scope.__init__" (defArgs csInit) (defBody csInit) (defScope csInit) dvS [] f fd) : Binds K fd psS [] ∧ ∃ ds, Vals dvS ds ∧ Binds K fd psS ds := by
  constructor
  · obtain ⟨ds, h1, h2⟩ := F.binds1 (ps := psS) 7 2 (by decide) (by decide) fun _ _ _ _ _ _ _ us its h1 h2 => match us, its, h1, h2 with
      | [_, _, _, _, _, _, _], [_, _], _, _ => ⟨_, rfl, rfl⟩
    cases vals_nil h1
    exact h2
  · exact F.binds1 (ps := psS) 5 0 (by decide) (by decide) fun _ _ _ _ _ _ _ us its h1 h2 => match us, its, h1, h2 with
      | [_, _, _, _, _], [_, _], _, _ => ⟨_, rfl, rfl⟩
end
end LB

set_option maxRecDepth 100000
set_option maxHeartbeats 8000000
namespace LB
open PySem PySem.Spec PyProof.Rows L2
open PySem.W (nsIn findIn subIn typeIn mroIn keepIn codeIn hasDictIn isClsIn specialIn takesIn)
/-- the law's def keeps its promise, from what the top has written -/
theorem all_mk {l : PySem.W.OpenLaw} {w : World} {K : PySem.W.Frag} {h : Heap} {mg : Str → Option Value} {fa : Addr} (X : K.In h) (G : h.Ns mainGlobals mg) (hfa : mg "law" = some (.ref fa))
    {fCell fDig fDr fAl cA Tb fAn fEr fEn fLt fEd fDu fLf fLr fLs fNw fLw Ct Cs fTi TTi fTd fTa fSi TSi fSd : Addr} {odCell anCell odDig anDig odDr anDr odAl anAl odAn anAn odEr anEr odEn anEn odLt anLt odEd anEd odDu anDu odLf anLf odLr anLr odLs anLs odNw anNw odLw anLw odTi anTi odtTi odTd anTd odTa anTa odSi anSi odtSi odSd anSd : Option Addr} {slCell slDig slDr slAl slAn slEr slEn slLt slEd slDu slLf slLr slLs slNw slLw slTi sltTi slTd slTa slSi sltSi slSd : Array (Option Value)} {ocCell kVCell dcCell pmCell cdCell ctCell ocDig kVDig dcDig pmDig cdDig ctDig ocDr kVDr dcDr pmDr cdDr ctDr ocAl kVAl dcAl pmAl cdAl ctAl ocAn kVAn dcAn pmAn ctAn ocEr kVEr dcEr pmEr cdEr ctEr ocEn kVEn dcEn pmEn cdEn ctEn ocLt kVLt dcLt pmLt cdLt ctLt ocEd kVEd dcEd pmEd cdEd ctEd ocDu kVDu dcDu pmDu cdDu ctDu ocLf kVLf dcLf pmLf cdLf ctLf ocLr kVLr dcLr pmLr cdLr ctLr ocLs kVLs dcLs pmLs cdLs ctLs ocNw kVNw dcNw pmNw cdNw ctNw ocLw kVLw dcLw pmLw cdLw ctLw ocTi kVTi dcTi pmTi cdTi ctTi otTi ocTd kVTd dcTd pmTd cdTd ctTd ocTa kVTa dcTa pmTa cdTa ctTa ocSi kVSi dcSi pmSi cdSi ctSi otSi ocSd kVSd dcSd pmSd cdSd ctSd : Value} {tk1 : Tok} {ntTi ntSi : Nat}
    (aCell : nsIn K mainGlobals "_law_cell" = some (some (.ref fCell)))
    (lCell : K.lookup fCell = some ⟨ocCell, odCell, .func (PySem.W.fnOf "_law_cell" "_law_cell" (defArgs sCell) (defBody sCell) (defScope sCell) .none kVCell dcCell pmCell anCell cdCell ctCell), slCell⟩)
    (cCell : codeIn K cdCell "_law_cell" = true)
    (kCell : keepIn K (.ref fCell) = true)
    (aDig : nsIn K mainGlobals "_law_digits" = some (some (.ref fDig)))
    (lDig : K.lookup fDig = some ⟨ocDig, odDig, .func (PySem.W.fnOf "_law_digits" "_law_digits" (defArgs sDigits) (defBody sDigits) (defScope sDigits) .none kVDig dcDig pmDig anDig cdDig ctDig), slDig⟩)
    (cDig : codeIn K cdDig "_law_digits" = true)
    (kDig : keepIn K (.ref fDig) = true)
    (aDr : nsIn K mainGlobals "_law_draw" = some (some (.ref fDr)))
    (lDr : K.lookup fDr = some ⟨ocDr, odDr, .func (PySem.W.fnOf "_law_draw" "_law_draw" (defArgs sDraw) (defBody sDraw) (defScope sDraw) .none kVDr dcDr pmDr anDr cdDr ctDr), slDr⟩)
    (cDr : codeIn K cdDr "_law_draw" = true)
    (kDr : keepIn K (.ref fDr) = true)
    (aAl : nsIn K mainGlobals "_law_alike" = some (some (.ref fAl)))
    (lAl : K.lookup fAl = some ⟨ocAl, odAl, .func (PySem.W.fnOf "_law_alike" "_law_alike" (defArgs sAlike) (defBody sAlike) (defScope sAlike) .none kVAl dcAl pmAl anAl cdAl ctAl), slAl⟩)
    (cAl : codeIn K cdAl "_law_alike" = true)
    (kAl : keepIn K (.ref fAl) = true)
    (aAn : nsIn K mainGlobals "scope_answer" = some (some (.ref fAn)))
    (lAn : K.lookup fAn = some ⟨ocAn, odAn, .func (PySem.W.fnOf "scope_answer" "scope_answer" (defArgs sAnswer) (defBody sAnswer) (defScope sAnswer) .none kVAn dcAn pmAn anAn (.ref cA) ctAn), slAn⟩)
    (cAn : codeIn K (.ref cA) "scope_answer" = true)
    (kAn : keepIn K (.ref fAn) = true)
    (aEr : nsIn K mainGlobals "scope_errors" = some (some (.ref fEr)))
    (lEr : K.lookup fEr = some ⟨ocEr, odEr, .func (PySem.W.fnOf "scope_errors" "scope_errors" (defArgs sErrors) (defBody sErrors) (defScope sErrors) .none kVEr dcEr pmEr anEr cdEr ctEr), slEr⟩)
    (cEr : codeIn K cdEr "scope_errors" = true)
    (kEr : keepIn K (.ref fEr) = true)
    (aEn : nsIn K mainGlobals "_law_ended" = some (some (.ref fEn)))
    (lEn : K.lookup fEn = some ⟨ocEn, odEn, .func (PySem.W.fnOf "_law_ended" "_law_ended" (defArgs sEnded) (defBody sEnded) (defScope sEnded) .none kVEn dcEn pmEn anEn cdEn ctEn), slEn⟩)
    (cEn : codeIn K cdEn "_law_ended" = true)
    (kEn : keepIn K (.ref fEn) = true)
    (aLt : nsIn K mainGlobals "_law_task" = some (some (.ref fLt)))
    (lLt : K.lookup fLt = some ⟨ocLt, odLt, .func (PySem.W.fnOf "_law_task" "_law_task" (defArgs sTask) (defBody sTask) (defScope sTask) .none kVLt dcLt pmLt anLt cdLt ctLt), slLt⟩)
    (cLt : codeIn K cdLt "_law_task" = true)
    (kLt : keepIn K (.ref fLt) = true)
    (aEd : nsIn K mainGlobals "_law_errors_due" = some (some (.ref fEd)))
    (lEd : K.lookup fEd = some ⟨ocEd, odEd, .func (PySem.W.fnOf "_law_errors_due" "_law_errors_due" (defArgs sErrorsDue) (defBody sErrorsDue) (defScope sErrorsDue) .none kVEd dcEd pmEd anEd cdEd ctEd), slEd⟩)
    (cEd : codeIn K cdEd "_law_errors_due" = true)
    (kEd : keepIn K (.ref fEd) = true)
    (aDu : nsIn K mainGlobals "_law_due" = some (some (.ref fDu)))
    (lDu : K.lookup fDu = some ⟨ocDu, odDu, .func (PySem.W.fnOf "_law_due" "_law_due" (defArgs sDue) (defBody sDue) (defScope sDue) .none kVDu dcDu pmDu anDu cdDu ctDu), slDu⟩)
    (cDu : codeIn K cdDu "_law_due" = true)
    (kDu : keepIn K (.ref fDu) = true)
    (aLf : nsIn K mainGlobals "_law_fields" = some (some (.ref fLf)))
    (lLf : K.lookup fLf = some ⟨ocLf, odLf, .func (PySem.W.fnOf "_law_fields" "_law_fields" (defArgs sFields) (defBody sFields) (defScope sFields) .none kVLf dcLf pmLf anLf cdLf ctLf), slLf⟩)
    (cLf : codeIn K cdLf "_law_fields" = true)
    (kLf : keepIn K (.ref fLf) = true)
    (aLr : nsIn K mainGlobals "_law_rest" = some (some (.ref fLr)))
    (lLr : K.lookup fLr = some ⟨ocLr, odLr, .func (PySem.W.fnOf "_law_rest" "_law_rest" (defArgs sRest) (defBody sRest) (defScope sRest) .none kVLr dcLr pmLr anLr cdLr ctLr), slLr⟩)
    (cLr : codeIn K cdLr "_law_rest" = true)
    (kLr : keepIn K (.ref fLr) = true)
    (aLs : nsIn K mainGlobals "_law_scope_fields" = some (some (.ref fLs)))
    (lLs : K.lookup fLs = some ⟨ocLs, odLs, .func (PySem.W.fnOf "_law_scope_fields" "_law_scope_fields" (defArgs sScopeF) (defBody sScopeF) (defScope sScopeF) .none kVLs dcLs pmLs anLs cdLs ctLs), slLs⟩)
    (cLs : codeIn K cdLs "_law_scope_fields" = true)
    (kLs : keepIn K (.ref fLs) = true)
    (aNw : nsIn K mainGlobals "_law_new" = some (some (.ref fNw)))
    (lNw : K.lookup fNw = some ⟨ocNw, odNw, .func (PySem.W.fnOf "_law_new" "_law_new" (defArgs sNew) (defBody sNew) (defScope sNew) .none kVNw dcNw pmNw anNw cdNw ctNw), slNw⟩)
    (cNw : codeIn K cdNw "_law_new" = true)
    (kNw : keepIn K (.ref fNw) = true)
    (aLw : nsIn K mainGlobals "law" = some (some (.ref fLw)))
    (lLw : K.lookup fLw = some ⟨ocLw, odLw, .func (PySem.W.fnOf "law" "law" (defArgs sLaw) (defBody sLaw) (defScope sLaw) .none kVLw dcLw pmLw anLw cdLw ctLw), slLw⟩)
    (cLw : codeIn K cdLw "law" = true)
    (kLw : keepIn K (.ref fLw) = true)
    (aCt : nsIn K mainGlobals "Task" = some (some (.ref Ct)))
    (pgCt : PySem.W.plainGet K Ct Str.empty = true)
    (hdCt : hasDictIn K Ct = true)
    (poCt : PySem.W.plainOver K Ct = true)
    (saCt : findIn K (.ref Ct) "__setattr__" = some (some (.builtin "object.__setattr__")))
    (mkCt : PySem.W.makesIn K Ct = true)
    (kpCt : keepIn K (.ref Ct) = true)
    (nCtpath : findIn K (.ref Ct) "path" = some none)
    (nCtplace : findIn K (.ref Ct) "place" = some none)
    (nCtstate : findIn K (.ref Ct) "state" = some none)
    (nCtended : findIn K (.ref Ct) "ended" = some none)
    (nCtoutcome : findIn K (.ref Ct) "outcome" = some none)
    (nCtresult : findIn K (.ref Ct) "result" = some none)
    (nCtmark : findIn K (.ref Ct) "mark" = some none)
    (nCtstep : findIn K (.ref Ct) "step" = some none)
    (nCtanswer : findIn K (.ref Ct) "answer" = some none)
    (nCtwake : findIn K (.ref Ct) "wake" = some none)
    (nCtscopes : findIn K (.ref Ct) "scopes" = some none)
    (nCtstarted : findIn K (.ref Ct) "started" = some none)
    (nCtdelivered : findIn K (.ref Ct) "delivered" = some none)
    (aCs : nsIn K mainGlobals "Scope" = some (some (.ref Cs)))
    (pgCs : PySem.W.plainGet K Cs Str.empty = true)
    (hdCs : hasDictIn K Cs = true)
    (poCs : PySem.W.plainOver K Cs = true)
    (saCs : findIn K (.ref Cs) "__setattr__" = some (some (.builtin "object.__setattr__")))
    (mkCs : PySem.W.makesIn K Cs = true)
    (kpCs : keepIn K (.ref Cs) = true)
    (nCspath : findIn K (.ref Cs) "path" = some none)
    (nCsmode : findIn K (.ref Cs) "mode" = some none)
    (nCsdeadline : findIn K (.ref Cs) "deadline" = some none)
    (nCsparts : findIn K (.ref Cs) "parts" = some none)
    (nCsclosed : findIn K (.ref Cs) "closed" = some none)
    (nCstimed_out : findIn K (.ref Cs) "timed_out" = some none)
    (aTi : findIn K (.ref Ct) "__init__" = some (some (.ref fTi)))
    (lTi : K.lookup fTi = some ⟨ocTi, odTi, .func (PySem.W.fnOf "__init__" "Task.__init__" (defArgs tsInit) (defBody tsInit) (defScope tsInit) (.ref TTi) kVTi dcTi pmTi anTi cdTi ctTi), slTi⟩)
    (cTi : codeIn K cdTi "Task.__init__" = true)
    (kTi : keepIn K (.ref fTi) = true)
    (tTi : K.lookup TTi = some ⟨otTi, odtTi, .seq (List.toArray [.str "created" tk1, .none, .none, .none, .none]) ntTi, sltTi⟩)
    (iTi : PySem.W.isFn K (.ref fTi) = true)
    (aTd : findIn K (.ref Ct) "duplicate" = some (some (.ref fTd)))
    (lTd : K.lookup fTd = some ⟨ocTd, odTd, .func (PySem.W.fnOf "duplicate" "Task.duplicate" (defArgs tsDup) (defBody tsDup) (defScope tsDup) .none kVTd dcTd pmTd anTd cdTd ctTd), slTd⟩)
    (cTd : codeIn K cdTd "Task.duplicate" = true)
    (kTd : keepIn K (.ref fTd) = true)
    (iTd : PySem.W.isFn K (.ref fTd) = true)
    (aTa : findIn K (.ref Ct) "is_alive" = some (some (.ref fTa)))
    (lTa : K.lookup fTa = some ⟨ocTa, odTa, .func (PySem.W.fnOf "is_alive" "Task.is_alive" (defArgs tsAlive) (defBody tsAlive) (defScope tsAlive) .none kVTa dcTa pmTa anTa cdTa ctTa), slTa⟩)
    (cTa : codeIn K cdTa "Task.is_alive" = true)
    (kTa : keepIn K (.ref fTa) = true)
    (iTa : PySem.W.isFn K (.ref fTa) = true)
    (aSi : findIn K (.ref Cs) "__init__" = some (some (.ref fSi)))
    (lSi : K.lookup fSi = some ⟨ocSi, odSi, .func (PySem.W.fnOf "__init__" "Scope.__init__" (defArgs csInit) (defBody csInit) (defScope csInit) (.ref TSi) kVSi dcSi pmSi anSi cdSi ctSi), slSi⟩)
    (cSi : codeIn K cdSi "Scope.__init__" = true)
    (kSi : keepIn K (.ref fSi) = true)
    (tSi : K.lookup TSi = some ⟨otSi, odtSi, .seq (List.toArray [.none, .bool false]) ntSi, sltSi⟩)
    (iSi : PySem.W.isFn K (.ref fSi) = true)
    (aSd : findIn K (.ref Cs) "duplicate" = some (some (.ref fSd)))
    (lSd : K.lookup fSd = some ⟨ocSd, odSd, .func (PySem.W.fnOf "duplicate" "Scope.duplicate" (defArgs csDup) (defBody csDup) (defScope csDup) .none kVSd dcSd pmSd anSd cdSd ctSd), slSd⟩)
    (cSd : codeIn K cdSd "Scope.duplicate" = true)
    (kSd : keepIn K (.ref fSd) = true)
    (iSd : PySem.W.isFn K (.ref fSd) = true)
    (z0 : nsIn K mainGlobals "len" = some none)
    (z1 : nsIn K mainGlobals "range" = some none)
    (z2 : nsIn K mainGlobals "int" = some none)
    (z3 : nsIn K mainGlobals "repr" = some none)
    (z4 : nsIn K mainGlobals "tuple" = some none)
    (z5 : nsIn K mainGlobals "list" = some none)
    (z6 : nsIn K mainGlobals "min" = some none)
    (z7 : nsIn K mainGlobals "isinstance" = some none)
    (nTb : K.lookup Tb = none)
    (hTb : PySem.W.codeHdIn K cA Tb = true) :
    ∃ (fd : FuncData) (c : Addr), (∀ (s : Shared) (u : Value), BindsTo s fd ⟨[u], []⟩ [("script", u)]) ∧ K.lookup Tb = none ∧ PySem.W.CodeHd h c Tb ∧ ∀ base : Heap, K.In base → base.Ns mainGlobals mg → LamX.TabB base mg c Tb → FnG l.prog w K mg base CX0 4 fa fd ["script"] (spLaw K Tb) := by
  have FCell := fun_mk (st := sCell) lCell cCell kCell
  have bCell := FCell.binds (ps := ["script", "k"]) fun _ _ _ _ _ _ us hl => match us, hl with | [_, _], _ => rfl
  have mCell := PySem.W.mg_of X G aCell
  have FDig := fun_mk (st := sDigits) lDig cDig kDig
  have bDig := FDig.binds (ps := ["script", "first", "last"]) fun _ _ _ _ _ _ us hl => match us, hl with | [_, _, _], _ => rfl
  have mDig := PySem.W.mg_of X G aDig
  have FDr := fun_mk (st := sDraw) lDr cDr kDr
  have bDr := FDr.binds (ps := ["box", "many"]) fun _ _ _ _ _ _ us hl => match us, hl with | [_, _], _ => rfl
  have mDr := PySem.W.mg_of X G aDr
  have FAl := fun_mk (st := sAlike) lAl cAl kAl
  have bAl := FAl.binds (ps := ["one", "two"]) fun _ _ _ _ _ _ us hl => match us, hl with | [_, _], _ => rfl
  have mAl := PySem.W.mg_of X G aAl
  have FAn := fun_mk (st := sAnswer) lAn cAn kAn
  have bAn := FAn.binds (ps := ["scope", "tasks"]) fun _ _ _ _ _ _ us hl => match us, hl with | [_, _], _ => rfl
  have mAn := PySem.W.mg_of X G aAn
  have FEr := fun_mk (st := sErrors) lEr cEr kEr
  have bEr := FEr.binds (ps := ["scope", "tasks"]) fun _ _ _ _ _ _ us hl => match us, hl with | [_, _], _ => rfl
  have mEr := PySem.W.mg_of X G aEr
  have FEn := fun_mk (st := sEnded) lEn cEn kEn
  have bEn := FEn.binds (ps := ["box", "path"]) fun _ _ _ _ _ _ us hl => match us, hl with | [_, _], _ => rfl
  have mEn := PySem.W.mg_of X G aEn
  have FLt := fun_mk (st := sTask) lLt cLt kLt
  have bLt := FLt.binds (ps := ["row"]) fun _ _ _ _ _ _ us hl => match us, hl with | [_], _ => rfl
  have mLt := PySem.W.mg_of X G aLt
  have FEd := fun_mk (st := sErrorsDue) lEd cEd kEd
  have bEd := FEd.binds (ps := ["mode", "late", "rows"]) fun _ _ _ _ _ _ us hl => match us, hl with | [_, _, _], _ => rfl
  have mEd := PySem.W.mg_of X G aEd
  have FDu := fun_mk (st := sDue) lDu cDu kDu
  have bDu := FDu.binds (ps := ["mode", "late", "rows"]) fun _ _ _ _ _ _ us hl => match us, hl with | [_, _, _], _ => rfl
  have mDu := PySem.W.mg_of X G aDu
  have FLf := fun_mk (st := sFields) lLf cLf kLf
  have bLf := FLf.binds (ps := ["task"]) fun _ _ _ _ _ _ us hl => match us, hl with | [_], _ => rfl
  have mLf := PySem.W.mg_of X G aLf
  have FLr := fun_mk (st := sRest) lLr cLr kLr
  have bLr := FLr.binds (ps := ["task"]) fun _ _ _ _ _ _ us hl => match us, hl with | [_], _ => rfl
  have mLr := PySem.W.mg_of X G aLr
  have FLs := fun_mk (st := sScopeF) lLs cLs kLs
  have bLs := FLs.binds (ps := ["scope"]) fun _ _ _ _ _ _ us hl => match us, hl with | [_], _ => rfl
  have mLs := PySem.W.mg_of X G aLs
  have FNw := fun_mk (st := sNew) lNw cNw kNw
  have bNw := FNw.binds (ps := ["box"]) fun _ _ _ _ _ _ us hl => match us, hl with | [_], _ => rfl
  have mNw := PySem.W.mg_of X G aNw
  have FLw := fun_mk (st := sLaw) lLw cLw kLw
  have clCt : Cls K Ct := ⟨pgCt, hdCt, poCt, saCt⟩
  have mgCt := PySem.W.mg_of X G aCt
  have clCs : Cls K Cs := ⟨pgCs, hdCs, poCs, saCs⟩
  have mgCs := PySem.W.mg_of X G aCs
  have FTi : FunD K "__init__" "Task.__init__" (defArgs tsInit) (defBody tsInit) (defScope tsInit) dvT [] fTi _ := ⟨⟨_, _, _, _, _, _, _, _, _, _, rfl, lTi, cTi, .inr ⟨(fun z => by cases z), TTi, _, _, _, rfl, tTi, rfl, .cons ⟨_, rfl⟩ (.cons rfl (.cons rfl (.cons rfl (.cons rfl .nil))))⟩, .inl rfl⟩, kTi⟩
  have MTi : Mk K Ct fTi := ⟨mkCt, aTi, iTi, kpCt⟩
  have FTd := fun_mk (st := tsDup) lTd cTd kTd
  have bTd := FTd.binds (ps := ["self"]) fun _ _ _ _ _ _ us hl => match us, hl with | [_], _ => rfl
  have hTd : Meth K Ct "duplicate" fTd := ⟨aTd, iTd, kTd⟩
  have FTa := fun_mk (st := tsAlive) lTa cTa kTa
  have bTa := FTa.binds (ps := ["self"]) fun _ _ _ _ _ _ us hl => match us, hl with | [_], _ => rfl
  have hTa : Meth K Ct "is_alive" fTa := ⟨aTa, iTa, kTa⟩
  have FSi : FunD K "__init__" "Scope.__init__" (defArgs csInit) (defBody csInit) (defScope csInit) dvS [] fSi _ := ⟨⟨_, _, _, _, _, _, _, _, _, _, rfl, lSi, cSi, .inr ⟨(fun z => by cases z), TSi, _, _, _, rfl, tSi, rfl, .cons rfl (.cons rfl .nil)⟩, .inl rfl⟩, kSi⟩
  have MSi : Mk K Cs fSi := ⟨mkCs, aSi, iSi, kpCs⟩
  have FSd := fun_mk (st := csDup) lSd cSd kSd
  have bSd := FSd.binds (ps := ["self"]) fun _ _ _ _ _ _ us hl => match us, hl with | [_], _ => rfl
  have hSd : Meth K Cs "duplicate" fSd := ⟨aSd, iSd, kSd⟩
  have n0 := PySem.W.mg_none_of X G z0
  have n1 := PySem.W.mg_none_of X G z1
  have n2 := PySem.W.mg_none_of X G z2
  have n3 := PySem.W.mg_none_of X G z3
  have n4 := PySem.W.mg_none_of X G z4
  have n5 := PySem.W.mg_none_of X G z5
  have n6 := PySem.W.mg_none_of X G z6
  have n7 := PySem.W.mg_none_of X G z7
  have M0 : Names mg := ⟨n0, n1, n2, n3⟩
  have M : NamesK mg := ⟨M0, n4, n5, n6, n7⟩
  have T : ClsT K Ct := ⟨clCt, nCtpath, nCtplace, nCtstate, nCtended, nCtoutcome, nCtresult, nCtmark, nCtstep, nCtanswer, nCtwake, nCtscopes, nCtstarted, nCtdelivered⟩
  have S : ClsS K Cs := ⟨clCs, nCspath, nCsmode, nCsdeadline, nCsparts, nCsclosed, nCstimed_out⟩
  obtain ⟨bT, dsT, rT, bT2⟩ := tinit_binds FTi
  obtain ⟨bS, dsS, rS, bS2⟩ := sinit_binds FSi
  have e := hfa.symm.trans (PySem.W.mg_of X G aLw)
  cases e
  refine ⟨_, cA, fun s v => .of_eq rfl, nTb, PySem.W.codeHd_of_K X hTb, fun base _ _ TB => ok_law (Ct := Ct) (Cs := Cs) FLw ?_⟩
  have GI : FnOk l.prog w K mg base CX0 1 fTi _ psT (spTInit K Ct) := ok_tinit FTi T
  have GJ : FnOk l.prog w K mg base CX0 1 fSi _ psS (spSInit K Cs) := ok_sinit FSi S
  have GA : FnOk l.prog w K mg base CX0 1 fTa _ ["self"] (spAlive K Ct) := ok_alive FTa T
  have GF : FnOk l.prog w K mg base CX0 1 fLf _ ["task"] (spFields K Ct) := ok_fields FLf T
  have GR : FnOk l.prog w K mg base CX0 1 fLr _ ["task"] (spRest K Ct) := ok_rest FLr T
  have GC : FnOk l.prog w K mg base CX0 1 fLs _ ["scope"] (spScopeF K Cs) := ok_scopef FLs S
  have GL : FnG l.prog w K mg base CX0 1 fAl _ ["one", "two"] (spAlike K) := ok_alike FAl M0
  exact
    { T := T, S := S, G := ⟨_, _, ok_digits FDig M0 FCell mCell bCell, mDig, kDig, bDig⟩, D := ⟨_, _, ok_draw FDr M0, mDr, kDr, bDr⟩, J := ⟨_, _, GJ, MSi, mgCs, bS⟩, E := ⟨_, _, ok_ended FEn M FDr mDr bDr, mEn, kEn, bEn⟩,
      K_ := ⟨_, _, ok_ltask FLt T GI MTi mgCt bT, mLt, kLt, bLt⟩, N := ⟨_, _, ok_ans lAn cAn TB T S M FEr mEr bEr, mAn, kAn, bAn⟩, Du := ⟨_, _, ok_due FDu M FEd mEd bEd, mDu, kDu, bDu⟩, C := ⟨_, _, GC, mLs, kLs, bLs⟩, F := ⟨_, _, GF, mLf, kLf, bLf⟩, R := ⟨_, _, GR, mLr, kLr, bLr⟩,
      V := ⟨_, _, ok_sdup FSd S GJ MSi mgCs bS, hSd, bSd⟩, U := ⟨_, _, ok_tdup FTd T GI MTi mgCt bT, hTd, bTd⟩, A := ⟨_, _, GA, hTa, bTa⟩, L := ⟨_, _, GL, mAl, kAl, bAl⟩,
      W := ⟨_, _, ok_new FNw M FDr mDr bDr T S GI MTi mgCt bT2 rT GJ MSi mgCs bS2 rS GF mLf kLf bLf GA hTa bTa GR mLr kLr bLr GC mLs kLs bLs GL mAl kAl bAl, mNw, kNw, bNw⟩, names := M }
end LB

open PySem PySem.W PyProof.Rows
set_option maxRecDepth 100000 in
set_option maxHeartbeats 0 in
theorem PySem.Challenge.cw_asforetold_k32_answers_of_scopes_holds : PySem.Challenge.rw_asforetold_k32_answers_of_scopes.Holds := by
  w_on; o_law; k_head; (case hw => w_witness2)
  k_fill
  refine LB.walk_freeT (l := PySem.Challenge.rw_asforetold_k32_answers_of_scopes) (n := 63) (k := 4) (x := "script") (CX := L2.CX0) (sp := LB.spLaw) rfl (by decide) rfl ⟨rfl, by decide, by decide⟩ (fun w h Y => ⟨PySem.W.km_in_of Y, PySem.W.km_tabs_of Y _ (List.mem_cons_self ..)⟩) ?F (fun K H a ns hl _ hS hT => ⟨a, ns, rfl, hS, fun p hp => (List.mem_singleton.mp hp) ▸ LamX.TabS.nil hT, fun _ => rfl⟩) fun _ _ _ _ z => z
  case F =>
    intro w mg fa h KX G hmg
    refine' LB.all_mk KX G hmg ?aCell ?lCell ?cCell ?kCell ?aDig ?lDig ?cDig ?kDig ?aDr ?lDr ?cDr ?kDr ?aAl ?lAl ?cAl ?kAl ?aAn ?lAn ?cAn ?kAn ?aEr ?lEr ?cEr ?kEr ?aEn ?lEn ?cEn ?kEn ?aLt ?lLt ?cLt ?kLt ?aEd ?lEd ?cEd ?kEd ?aDu ?lDu ?cDu ?kDu ?aLf ?lLf ?cLf ?kLf ?aLr ?lLr ?cLr ?kLr ?aLs ?lLs ?cLs ?kLs ?aNw ?lNw ?cNw ?kNw ?aLw ?lLw ?cLw ?kLw ?aCt ?pgCt ?hdCt ?poCt ?saCt ?mkCt ?kpCt ?nCtpath ?nCtplace ?nCtstate ?nCtended ?nCtoutcome ?nCtresult ?nCtmark ?nCtstep ?nCtanswer ?nCtwake ?nCtscopes ?nCtstarted ?nCtdelivered ?aCs ?pgCs ?hdCs ?poCs ?saCs ?mkCs ?kpCs ?nCspath ?nCsmode ?nCsdeadline ?nCsparts ?nCsclosed ?nCstimed_out ?aTi ?lTi ?cTi ?kTi ?tTi ?iTi ?aTd ?lTd ?cTd ?kTd ?iTd ?aTa ?lTa ?cTa ?kTa ?iTa ?aSi ?lSi ?cSi ?kSi ?tSi ?iSi ?aSd ?lSd ?cSd ?kSd ?iSd ?z0 ?z1 ?z2 ?z3 ?z4 ?z5 ?z6 ?z7 ?nTb ?hTb
    (case aCell => k_is)
    (case lCell => k_is)
    (case cCell => k_is)
    (case kCell => k_is)
    (case aDig => k_is)
    (case lDig => k_is)
    (case cDig => k_is)
    (case kDig => k_is)
    (case aDr => k_is)
    (case lDr => k_is)
    (case cDr => k_is)
    (case kDr => k_is)
    (case aAl => k_is)
    (case lAl => k_is)
    (case cAl => k_is)
    (case kAl => k_is)
    (case aAn => k_is)
    (case lAn => k_is)
    (case cAn => k_is)
    (case kAn => k_is)
    (case aEr => k_is)
    (case lEr => k_is)
    (case cEr => k_is)
    (case kEr => k_is)
    (case aEn => k_is)
    (case lEn => k_is)
    (case cEn => k_is)
    (case kEn => k_is)
    (case aLt => k_is)
    (case lLt => k_is)
    (case cLt => k_is)
    (case kLt => k_is)
    (case aEd => k_is)
    (case lEd => k_is)
    (case cEd => k_is)
    (case kEd => k_is)
    (case aDu => k_is)
    (case lDu => k_is)
    (case cDu => k_is)
    (case kDu => k_is)
    (case aLf => k_is)
    (case lLf => k_is)
    (case cLf => k_is)
    (case kLf => k_is)
    (case aLr => k_is)
    (case lLr => k_is)
    (case cLr => k_is)
    (case kLr => k_is)
    (case aLs => k_is)
    (case lLs => k_is)
    (case cLs => k_is)
    (case kLs => k_is)
    (case aNw => k_is)
    (case lNw => k_is)
    (case cNw => k_is)
    (case kNw => k_is)
    (case aLw => k_is)
    (case lLw => k_is)
    (case cLw => k_is)
    (case kLw => k_is)
    (case aCt => k_is)
    (case pgCt => k_is)
    (case hdCt => k_is)
    (case poCt => k_is)
    (case saCt => k_is)
    (case mkCt => k_is)
    (case kpCt => k_is)
    (case nCtpath => k_is)
    (case nCtplace => k_is)
    (case nCtstate => k_is)
    (case nCtended => k_is)
    (case nCtoutcome => k_is)
    (case nCtresult => k_is)
    (case nCtmark => k_is)
    (case nCtstep => k_is)
    (case nCtanswer => k_is)
    (case nCtwake => k_is)
    (case nCtscopes => k_is)
    (case nCtstarted => k_is)
    (case nCtdelivered => k_is)
    (case aCs => k_is)
    (case pgCs => k_is)
    (case hdCs => k_is)
    (case poCs => k_is)
    (case saCs => k_is)
    (case mkCs => k_is)
    (case kpCs => k_is)
    (case nCspath => k_is)
    (case nCsmode => k_is)
    (case nCsdeadline => k_is)
    (case nCsparts => k_is)
    (case nCsclosed => k_is)
    (case nCstimed_out => k_is)
    (case aTi => k_is)
    (case lTi => k_is)
    (case cTi => k_is)
    (case kTi => k_is)
    (case tTi => k_is)
    (case iTi => k_is)
    (case aTd => k_is)
    (case lTd => k_is)
    (case cTd => k_is)
    (case kTd => k_is)
    (case iTd => k_is)
    (case aTa => k_is)
    (case lTa => k_is)
    (case cTa => k_is)
    (case kTa => k_is)
    (case iTa => k_is)
    (case aSi => k_is)
    (case lSi => k_is)
    (case cSi => k_is)
    (case kSi => k_is)
    (case tSi => k_is)
    (case iSi => k_is)
    (case aSd => k_is)
    (case lSd => k_is)
    (case cSd => k_is)
    (case kSd => k_is)
    (case iSd => k_is)
    (case z0 => k_is)
    (case z1 => k_is)
    (case z2 => k_is)
    (case z3 => k_is)
    (case z4 => k_is)
    (case z5 => k_is)
    (case z6 => k_is)
    (case z7 => k_is)
    (case nTb => (first | kernel_rfl | rfl | decide +kernel))
    (case hTb => (first | k_is | kernel_rfl))

