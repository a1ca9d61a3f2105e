import PyProof.Rows.All
import Wide.All
import OpenK.AllK
import Wide.FinOn
import HandS.ForExc
import HandS.EndBits
import HandS.Wide
import HandS.TupLe
import HandS.SortKw
import KE.DataMinMax
import HandS.Defaults
import HandS.Codes
import HandS.Comp
import PySem.Challenge.RW_asforetold_k04_sizes_of_plans
set_option Elab.async false
set_option linter.all false
set_option maxRecDepth 100000
set_option maxHeartbeats 2000000
namespace LB
open PySem PySem.Spec PyProof.Rows L2
/-! ### defs that are called where no repr is under way -/
def Free (A : Around) : Prop := A.guards = some []
/-- as a def's promise, but told of calls from places at which no repr is under way alone -/
structure FnG (P : Program) (w : World) (K : PySem.W.Frag) (mg : Str → Option Value) (base : Heap) (CX : CXT) (k : Nat) (f : Addr) (fd : FuncData) (ps : List Str) (sp : Sp) : Prop where
  many : ∀ xs H Q E, sp xs H Q E → xs.length = ps.length
  goes : ∀ (A : Around) (fr : List Env) (s : Shared) (H : Hp) (a : Args) (us : List Value) (xs : List V) (Q : VK) (E : XK), Free A → Room k A → Env0 P w K mg base A fr s H →
    BindsTo s fd a (ps.zip us) → Vals xs us → sp xs H Q E → codeAny (model P w) A (.call (.ref f) a) (CR CX fr P w H s Q E) s
theorem FnG.ofOk {P : Program} {w : World} {K : PySem.W.Frag} {mg : Str → Option Value} {base : Heap} {CX : CXT} {k : Nat} {f : Addr} {fd : FuncData} {ps : List Str} {sp : Sp} (F : FnOk P w K mg base CX k f fd ps sp) : FnG P w K mg base CX k f fd ps sp :=
  ⟨F.len, fun A fr s H a us xs Q E _ => F.run A fr s H a us xs Q E⟩
theorem FnG.up {P : Program} {w : World} {K : PySem.W.Frag} {mg : Str → Option Value} {base : Heap} {CX : CXT} {j k : Nat} {f : Addr} {fd : FuncData} {ps : List Str} {sp : Sp} (F : FnG P w K mg base CX j f fd ps sp) (h : j ≤ k) : FnG P w K mg base CX k f fd ps sp :=
  ⟨F.many, fun A fr s H a us xs Q E g r => F.goes A fr s H a us xs Q E g (r.mono h)⟩
theorem Free.deeper {A : Around} (g : Free A) (env : Env) : Free (A.deeper env) := by
  first
    | exact g
    | (unfold Free at *; simpa [Around.deeper] using g)
/-- by the body, as fn_of -/
theorem FnG.by_body {CX : CXT} {P : Program} {w : World} {K : PySem.W.Frag} {mg : Str → Option Value} {base : Heap} {k : Nat} {f : Addr} {x q : Str} {pa : Arguments} {bd : List Stmt} {sc : Scope} {v1 v2 v3 v4 v5 v6 v7 : Value} {a1 a2 : Option Addr}
    {sl : Array (Option Value)} {N ps : List Str} {sp : Sp} (at_ : K.lookup f = some ⟨v7, a2, .func (PySem.W.fnOf x q pa bd sc v1 v2 v3 v4 a1 v5 v6), sl⟩) (code : PySem.W.codeIn K v5 q = true) (S : FnScope N ps sc)
    (many : ∀ xs H Q E, sp xs H Q E → xs.length = ps.length)
    (body : ∀ (A : Around) (fr : List Env) (s : Shared) (H : Hp) (xs : List V) (Q : VK) (E : XK), Free (A.deeper (envOfC q sc s.heap.objs.size f v5)) → Room k (A.deeper (envOfC q sc s.heap.objs.size f v5)) → sp xs H Q E →
      ∃ t, PSs (cxOf CX P w K mg base N q sc f v5 A fr s H E) bd t ∧ t { nx := fun _ H' => Q .non H', rt := Q } (start N xs) H) :
    FnG P w K mg base CX (k + 1) f (PySem.W.fnOf x q pa bd sc v1 v2 v3 v4 a1 v5 v6) ps sp := by
  constructor
  · exact many
  intro A fr s H a us xs Q E g room e0 bound vals want
  have kin : K.In s.heap := e0.mod.kin.keeps fun b o z => (e0.bs b o z).1
  have nolim : s.heap.NoLimit := e0.mod.nolimit.keeps fun b o z => (e0.bs b o z).1
  have len := many _ _ _ _ want
  obtain ⟨t, derived, reads⟩ := body A fr s H xs Q E (g.deeper _) (room.deeper _) want
  have kinds : ∀ y ∈ ps.zip us, sc.names.lookup y.1 = some .local ∨ (sc.names.lookup y.1 = some .cell ∧ ((cellsFrom (s.heap.objs.size + 1) sc.names []).lookup y.1).isSome = true) := by
    rintro ⟨n, v⟩ hy
    cases S.par n (List.of_mem_zip hy).1 with
    | inl z => exact .inl z
    | inr z => exact .inr ⟨z, PySem.W.cellsFrom_some _ _ _ (.inl z)⟩
  refine codeAny_call_function room.depth (kin _ _ at_) rfl S.co S.gen rfl (PySem.W.codeRec_of kin code) (bound _ _ _ _ ?_)
  refine wpAny_newFunctionEnv_cells S.kind kinds ?_
  intro env he s1 into
  subst he
  refine ⟨nolim.keeps into.toInCall.keep, codeAny_func ?_⟩
  have I := inv_start (CX := CX) (E := E) S room.hd e0 len vals into
  refine wpAny_mono (derived.run [] s1 (start N xs) H _ I reads) ?_ (fun _ _ z => z)
  intro fl s2 z
  cases fl with
  | next =>
    obtain ⟨σ2, H2, J, q⟩ := z
    exact ⟨.non, H2, J.os, J.bare, J.base, J.hok, rfl, q⟩
  | ret u =>
    obtain ⟨v, σ2, H2, J, r, q⟩ := z
    exact ⟨v, H2, J.os, J.bare, J.base, J.hok, r, q⟩
  | brk =>
    obtain ⟨_, _, _, q⟩ := z
    exact q.elim
  | cont =>
    obtain ⟨_, _, _, q⟩ := z
    exact q.elim
theorem FnG.of_fun {P : Program} {w : World} {K : PySem.W.Frag} {mg : Str → Option Value} {base : Heap} {x q : Str} {st : Stmt} {f : Addr} {fd : FuncData} {N ps : List Str} {k : Nat} {sp : Sp} (F : Fun K x q st f fd) (S : FnScope N ps (defScope st)) (many : ∀ xs H Q E, sp xs H Q E → xs.length = ps.length)
    (body : ∀ (cdv : Value) (A : Around) (fr : List Env) (s : Shared) (H : Hp) (xs : List V) (Q : VK) (E : XK), Free (A.deeper (envOfC q (defScope st) s.heap.objs.size f cdv)) → Room k (A.deeper (envOfC q (defScope st) s.heap.objs.size f cdv)) → sp xs H Q E →
      ∃ t, PSs (cxOf CX0 P w K mg base N q (defScope st) f cdv A fr s H E).nox (defBody st) t ∧ t { nx := fun _ H' => Q .non H', rt := Q } (start N xs) H) : FnG P w K mg base CX0 (k + 1) f fd ps sp := by
  obtain ⟨v7, a2, v2, v3, v4, a1, v5, v6, sl, rfl, at_, code⟩ := F.ex
  refine FnG.by_body at_ code S many ?_
  intro A fr s H xs Q E g r want
  obtain ⟨t, h, q⟩ := body v5 A fr s H xs Q E g r want
  exact ⟨t, h.nox, q⟩
section
variable {X : Cx} {CX : CXT} {k : Nat} {f : Addr} {fd : FuncData} {ps : List Str} {sp : Sp} {dvs : List V} {ds : List Value} {E : XK} {x : Str} {p pos : Pos} {e : Expr} {es : List Expr} {t : TA}
/-- f(e, ..), f such a def -/
theorem pe_callF (g : Free X.A) (F : FnG X.prog X.w X.K X.mg X.base CX k f fd ps sp) (hr : Room k X.A) (hg : Gl X x) (hm : X.mg x = some (.ref f)) (hk : PySem.W.keepIn X.K (.ref f) = true) (hb : Binds X.K fd ps ds) (hd : Vals dvs ds) (hx : Passes CX X E)
    (ha : PA X (e :: es) t) (hdb : (x == ("__debug__" : Str)) = false := by decide) (he : starEach (e :: es) X.env = (false, eval e X.env) :: starEach es X.env := by rfl) (hpl : (backTo pos (starEach es X.env)).any (·.1) = false := by rfl) :
    PE X (.Call (.Name x p) (e :: es) [] pos) (tCall sp dvs E t) := by
  constructor
  intro pins s σ H Q I h
  refine wpAny_Call_Name_kw (ld_glob I hg hm ?_ hdb)
  refine PySem.W.callWith_K (h₀ := X.base) I.ok.mod.kin hk (thn (ha.run pos pins s σ H _ I h) ?_) he hpl
  rintro us s1 ⟨xs, H1, I1, r, q⟩
  refine ⟨I1.kIn, ?_⟩
  have r2 : Vals (xs ++ dvs) (us ++ ds) := r.append hd
  have len : (us ++ ds).length = ps.length := r2.length.symm.trans (F.many _ _ _ _ q)
  refine wpAny_call (codeAny_mono (F.goes X.A X.stack s1 H1 ⟨us, []⟩ (us ++ ds) (xs ++ dvs) Q E g hr I1.env0 (hb s1 us I1.kIn len) r2 q) ?_)
  intro res s2 z
  match res, z with
  | .error err, z => exact hx pins σ H1 s1 err s2 I1 z
  | .ok (.ret u), z => exact I1.after z
  | .ok .next, z => exact False.elim z
  | .ok .brk, z => exact False.elim z
  | .ok .cont, z => exact False.elim z
end
end LB

set_option maxRecDepth 100000
set_option maxHeartbeats 2000000
namespace LB
open PySem PySem.Spec PyProof.Rows L2
/-! ### repr of data -/
/-- data whose repr is short enough to be told -/
structure Short (d : PyData) : Prop where
  sh : d.showable = true
  nd : d.hasDict = false
  dp : d.depth ≤ 50
  len : d.shown.length ≤ sizeLine
def rRepr (K : PySem.W.Frag) : List V → Hp → VK → Prop := fun xs H Q => ∃ v d, xs = [v] ∧ Dp K H v d ∧ Short d ∧ Q (.str d.shown) H
theorem call_repr {X : Cx} (g : Free X.A) (hu : X.A.units + 64 < cLine) : CallR X (.builtin "repr") (rRepr X.K) := by
  intro pins s σ H xs us Q I r h
  obtain ⟨v, d, rfl, hd, S, q⟩ := h
  obtain ⟨u, rfl, ru⟩ := vals1 r
  obtain ⟨as, rd⟩ := Dp.reads I d v u hd ru
  have fin : ∀ (a : Addr), Reads s.heap (.ref a) d as → wpAny (model X.prog X.w) X.A (call (.builtin "repr") [.ref a]) (EP X pins σ Q) X.xe s := fun a ra => by
    have dp := S.dp
    refine repr_of_reads' ra S.sh (PyData.noDict_hsm S.nd) g (by omega) (fun _ _ z => z) ?_ S.len
    intro h' t tk kept
    exact ⟨.str d.shown, H, I.kept kept, ⟨_, rfl⟩, q⟩
  cases rd with
  | none => exact PySem.P.repr_of_none ⟨.str _, H, I.tok _, ⟨_, rfl⟩, q⟩
  | bool b => exact PySem.P.repr_of_bool ⟨.str _, H, I.tok _, ⟨_, rfl⟩, q⟩
  | int i t => exact PySem.P.repr_of_int (by have z := S.sh; simpa [PyData.showable] using z) ⟨.str _, H, I.tok _, ⟨_, rfl⟩, q⟩
  | str x t => exact PySem.P.repr_of_str ⟨.str _, H, I.tok _, ⟨_, rfl⟩, q⟩ S.len
  | list h1 h2 h3 h4 => exact fin _ (.list h1 h2 h3 h4)
  | tuple h1 h2 h3 h4 => exact fin _ (.tuple h1 h2 h3 h4)
  | dict h1 h2 h3 h4 h5 => exact absurd S.nd (by simp [PyData.hasDict])
/-- small ints, texts of up to a million signs in all -/
theorem Short.of {d : PyData} (h1 : d.showable = true) (h2 : d.hasDict = false) (h3 : d.depth ≤ 50) (h4 : d.leavesShort 13 = true) (h5 : d.bulk ≤ 2 ^ 20) : Short d :=
  ⟨h1, h2, h3, PyData.shown_fits_bulk (by decide) (by decide) h4 h5⟩
theorem log_small {i : Int} (h : i.natAbs < 10 ^ 12) : i.natAbs.log2 < 1920 := by
  by_cases z : i.natAbs = 0
  · rw [z]; decide
  · have := (Nat.log2_lt z (k := 1920)).mpr (Nat.lt_trans h (by decide))
    exact this
theorem leaf_small {i : Int} (h : i.natAbs < 10 ^ 12) : (PyData.shown (.int i)).length ≤ 13 := PyData.shown_int_le (by simpa using h)
/-- an int below 10 ^ 12 in size -/
def Sm (i : Int) : Prop := i.natAbs < 10 ^ 12
theorem Sm.of {i : Int} (h1 : -1000000000 ≤ i) (h2 : i ≤ 1000000000) : Sm i := by
  have e : (10 : Nat) ^ 12 = 1000000000000 := by decide
  unfold Sm
  rw [e]
  omega
/-! ### two values of one repr -/
def spAlike (K : PySem.W.Frag) : Sp := fun vs H Q _ => ∃ x y d, vs = [x, y] ∧ Dp K H x d ∧ Dp K H y d ∧ Short d ∧ Q (.bl true) H
end LB

set_option maxRecDepth 100000
set_option maxHeartbeats 2000000
namespace LB
open PySem PySem.Spec PyProof.Rows L2
/-! ### the end of a law's row whose def is told of free places alone -/
section
variable {P : Program} {w : World} {K : PySem.W.Frag} {mg mb : Str → Option Value} {CX : CXT} {k : Nat} {fa a : Addr} {fd : FuncData} {x : Str} {sp : Sp} {z : Shared} {us : List Value} {ns : List Int}
/-- what law answers, from a heap H that tracks the script at most -/
theorem answer_from {H : Hp} (g : z.gens = #[]) (only : Only H) (alone : ∀ b, H b ≠ none → b = a) (isL : ∃ d n, (z.heap.get? a).map Obj.data = some (.seq d n)) (kin : K.In z.heap) (apart : H a ≠ none → K.lookup a = none)
    (ng : z.heap.Ns mainGlobals mg) (nb : z.heap.Ns builtinsNs mb) (boot : ∀ y : Str, y ≠ "__name__" → mb y = bootBuiltins y) (nolim : z.heap.NoLimit) (hok : HOk P w H z.heap) (room : Room k callerA)
    (F : ∀ b : Heap, K.In b → b.Ns mainGlobals mg → FnG P w K mg b CX k fa fd [x] sp) (binds : ∀ (s : Shared) (u : Value), BindsTo s fd ⟨[u], []⟩ [(x, u)])
    (want : sp [.ref a] H (fun v _ => v = .bl true) fun _ _ _ => False) (calm : ∀ e s', CX [] H z (fun _ _ _ => False) e s' → False) :
    codeAny (model P w) callerA (.call (.ref fa) ⟨[.ref a], []⟩) (fun r s' => r = .ok (.ret (.bool true)) ∧ OldK z.heap s'.heap ∧ s'.os = z.os ∧ AllBare s'.gens) z := by
  have dictFree : ∀ {b : Addr} {o : Obj} {es : Array DictEntry} {n : Nat}, z.heap.get? b = some o → o.data = .dict es n → H b = none := by
    intro b o es n at_ da
    by_cases q : H b = none
    · exact q
    · have eb := alone b q
      subst eb
      obtain ⟨d, m, e⟩ := isL
      rw [at_] at e
      have e2 := Option.some.inj e
      rw [da] at e2
      cases e2
  have moved : ∀ {b : Addr} {m : Str → Option Value}, z.heap.Ns b m → (hidT z.heap H).Ns b m := by
    rintro b m ⟨o, es, n, at_, da, r⟩
    exact ⟨o, es, n, hidT_get at_ (dictFree at_ da), da, r⟩
  have kin2 : K.In (hidT z.heap H) := by
    intro b o at_
    refine hidT_get (kin b o at_) ?_
    by_cases q : H b = none
    · exact q
    · have eb := alone b q
      subst eb
      rw [apart q] at at_
      cases at_
  obtain ⟨mc, c1, c2⟩ := nolim
  have e0 : Env0 P w K mg (hidT z.heap H) callerA [] z H :=
    { frames := rfl, mod := ⟨kin2, moved ng, ⟨mb, moved nb, boot⟩, ⟨mc, moved c1, c2⟩⟩, bs := fun _ _ at_ => of_hidT at_, bsz := Nat.le_of_eq (hidT_size _ _), funs := trivial,
      frf := fun b hb => absurd (show b ∈ ([] : List Addr) from hb) List.not_mem_nil, hok := hok, bare := .of_eq g }
  refine codeAny_mono ((F _ kin2 (moved ng)).goes callerA [] z H ⟨[.ref a], []⟩ [.ref a] [.ref a] _ _ rfl room e0 (binds z (.ref a)) (.cons rfl .nil) want) ?_
  intro r s' out
  match r, out with
  | .error e, out => exact (calm e s' out).elim
  | .ok .next, out => exact False.elim out
  | .ok .brk, out => exact False.elim out
  | .ok .cont, out => exact False.elim out
  | .ok (.ret u), out =>
    obtain ⟨v, H', os, bare, un, hok', r', q⟩ := out
    have q' : v = .bl true := q
    subst q'
    have eu : u = Value.bool true := r'
    subst eu
    refine ⟨rfl, OldK.of_keep ?_, os, bare⟩
    intro b o at_
    by_cases q : H b = none
    · exact un.keep b o at_ q (fun y => absurd (show b ∈ ([] : List Addr) from y) List.not_mem_nil) List.not_mem_nil
    · rcases only b with y | ⟨ob, xs, y⟩
      · exact absurd y q
      · obtain ⟨e1, _⟩ := hok b _ y
        obtain ⟨e2, _⟩ := hok' b _ (un.frzs b ob _ y)
        rw [at_] at e1
        cases e1
        exact e2
end
theorem walk_free {l : PySem.W.OpenLaw} {n k : Nat} {q : Program} {loose : List Str} {XP : (Str → Option Value) → Heap → Prop} {YP : World → Heap → Prop} {d : DefRec} {K : Params → PySem.W.Frag} {CX : CXT} {sp : PySem.W.Frag → Sp} {x : Str}
    (most : l.most = some n) (small : n ≤ sizeLine) (plain : d.params.defaults = []) (room : Room k callerA) (hY : ∀ (w : World) (h : Heap), YP w h → (K w.params).In h)
    (F : ∀ (w : World) (mg : Str → Option Value) (fa : Addr) (h : Heap), (K w.params).In h → h.Ns mainGlobals mg → mg d.name = some (.ref fa) →
      ∃ fd : FuncData, (∀ (s : Shared) (u : Value), BindsTo s fd ⟨[u], []⟩ [(x, u)]) ∧ ∀ base : Heap, (K w.params).In base → base.Ns mainGlobals mg → FnG l.prog w (K w.params) mg base CX k fa fd [x] (sp (K w.params)))
    (want : ∀ (K : PySem.W.Frag) (H : Hp) (a : Addr) (ns : List Int), ns.length ≤ n → (∀ i ∈ ns, Builtin.Int.intBits i ≤ 1048576) → SqL K H a (ns.map V.int) → sp K [.ref a] H (fun v _ => v = .bl true) fun _ _ _ => False)
    (calm : ∀ (H : Hp) (s : Shared) (e : Value) (s' : Shared), CX [] H s (fun _ _ _ => False) e s' → False) :
    PySem.W.WalkO q loose XP YP l.row.toRowW d [] (fun f vs => PySem.call f vs) := by
  refine Att.attach_callB most plain ?_
  intro w s₀ z mg mb fa o pm cd doc a us ns G Y ho hd hcd hmg at_ nums len bits g
  have kin := hY w _ Y
  obtain ⟨fd, hb, hF⟩ := F w mg fa _ kin G.T.g hmg
  have vals := vals_ints nums
  have lenU : us.length = ns.length := nums.length
  have lenS : (ns.map V.int).length ≤ sizeLine := by rw [List.length_map]; exact Nat.le_trans len small
  have isL : ∃ d n, (z.heap.get? a).map Obj.data = some (.seq d n) := ⟨us.toArray, _, by rw [at_]; rfl⟩
  cases lk : (K w.params).lookup a with
  | some ob =>
    have eo := kin a ob lk
    rw [at_] at eo
    cases eo
    refine answer_from (H := fun _ => none) g (fun _ => .inl rfl) (fun b y => absurd rfl y) isL kin (fun y => absurd rfl y) G.T.g G.T.b G.T.builtins G.T.nolimit (fun b u y => by cases (show (none : Option HO) = some u from y)) room hF hb ?_ fun e s' => calm _ z e s'
    exact want _ _ a ns len bits (.inr ⟨_, us.toArray, _, lk, rfl, rfl, rfl, by simpa [lenU] using lenS, by simpa using vals⟩)
  | none =>
    let S : HO := .frz { cls := .type "list", data := .seq us.toArray } (.lst (ns.map V.int))
    have yes : upd (fun _ => none) a S a = some S := upd_same
    have no : ∀ b, b ≠ a → upd (fun _ => none) a S b = none := fun b hb => by rw [upd_ne hb]
    refine answer_from (H := upd (fun _ => none) a S) g (fun b => ?_) (fun b y => ?_) isL kin (fun _ => lk) G.T.g G.T.b G.T.builtins G.T.nolimit (fun b u y => ?_) room hF hb ?_ fun e s' => calm _ z e s'
    · by_cases hb : b = a
      · subst hb
        exact .inr ⟨_, _, yes⟩
      · exact .inl (no b hb)
    · exact Classical.byContradiction fun hb => y (no b hb)
    · by_cases hb : b = a
      · subst hb
        have ey := Option.some.inj (yes.symm.trans y)
        subst ey
        exact ⟨at_, lenS, us, _, vals, at_⟩
      · rw [no b hb] at y
        cases y
    · exact want _ _ a ns len bits (.inl (.inr ⟨_, yes⟩))
end LB

set_option maxRecDepth 100000
set_option maxHeartbeats 2000000
namespace LB
/-! ### plans as trees -/
inductive Pk where
  | all | race | any | sequence
  deriving DecidableEq
inductive Kd where
  | plain (k : Pk) | pool (n : Int) | timeout (t : Int) | orelse | retry (r d : Int)
  deriving DecidableEq
/-- a node: its parts' indexes ps, in order -/
inductive Nd where
  | job (d : Int) (g : Bool) (v c : Int) (f : Option Int)
  | whole (k : Kd) (ps : List Int)
  deriving DecidableEq
inductive Pl where
  | job (d : Int) (g : Bool) (v c : Int) (f : Option Int)
  | node (k : Kd) (ps : List Pl)
def times : Kd → Int
  | .retry r _ => r + 1
  | _ => 1
def maxI (l : List Int) : Int := l.foldl max 0
mutual
def Pl.size : Pl → Nat
  | .job .. => 1
  | .node _ ps => Pl.sizeL ps + 1
def Pl.sizeL : List Pl → Nat
  | [] => 0
  | p :: r => p.size + Pl.sizeL r
end
mutual
def Pl.depth : Pl → Int
  | .job .. => 1
  | .node _ ps => 1 + maxI (Pl.depthL ps)
def Pl.depthL : List Pl → List Int
  | [] => []
  | p :: r => p.depth :: Pl.depthL r
end
mutual
def Pl.runs : Pl → Int
  | .job .. => 1
  | .node k ps => times k * (Pl.runsL ps).sum
def Pl.runsL : List Pl → List Int
  | [] => []
  | p :: r => p.runs :: Pl.runsL r
end
mutual
def Pl.clean : Pl → Int
  | .job _ _ _ c _ => c
  | .node _ ps => maxI (Pl.cleanL ps)
def Pl.cleanL : List Pl → List Int
  | [] => []
  | p :: r => p.clean :: Pl.cleanL r
end
theorem depthL_map : ∀ ps : List Pl, Pl.depthL ps = ps.map Pl.depth
  | [] => by rw [Pl.depthL]; rfl
  | p :: r => by rw [Pl.depthL, depthL_map r]; rfl
theorem runsL_map : ∀ ps : List Pl, Pl.runsL ps = ps.map Pl.runs
  | [] => by rw [Pl.runsL]; rfl
  | p :: r => by rw [Pl.runsL, runsL_map r]; rfl
theorem cleanL_map : ∀ ps : List Pl, Pl.cleanL ps = ps.map Pl.clean
  | [] => by rw [Pl.cleanL]; rfl
  | p :: r => by rw [Pl.cleanL, cleanL_map r]; rfl
theorem size_pos (p : Pl) : 0 < p.size := by
  cases p <;> simp [Pl.size]
/-- the indexes of the last nodes of the trees, the first tree's first node at o -/
def roots (o : Nat) : List Pl → List Int
  | [] => []
  | p :: r => ((o + p.size - 1 : Nat) : Int) :: roots (o + p.size) r
mutual
def Pl.flat (o : Nat) : Pl → List Nd
  | .job d g v c f => [.job d g v c f]
  | .node k ps => Pl.flatL o ps ++ [.whole k (roots o ps)]
def Pl.flatL (o : Nat) : List Pl → List Nd
  | [] => []
  | p :: r => p.flat o ++ Pl.flatL (o + p.size) r
end
mutual
theorem flat_length (o : Nat) : ∀ p : Pl, (p.flat o).length = p.size
  | .job .. => by simp [Pl.flat, Pl.size]
  | .node k ps => by
    have h := flatL_length o ps
    simp [Pl.flat, Pl.size, h]
theorem flatL_length (o : Nat) : ∀ ps : List Pl, (Pl.flatL o ps).length = Pl.sizeL ps
  | [] => by simp [Pl.flatL, Pl.sizeL]
  | p :: r => by
    have h := flat_length o p
    have h2 := flatL_length (o + p.size) r
    simp [Pl.flatL, Pl.sizeL, h, h2]
end
theorem sizeL_app : ∀ A B : List Pl, Pl.sizeL (A ++ B) = Pl.sizeL A + Pl.sizeL B
  | [], B => by simp [Pl.sizeL]
  | p :: r, B => by
    have h := sizeL_app r B
    simp only [List.cons_append, Pl.sizeL]
    omega
theorem flatL_app : ∀ (A B : List Pl) (o : Nat), Pl.flatL o (A ++ B) = Pl.flatL o A ++ Pl.flatL (o + Pl.sizeL A) B
  | [], B, o => by simp [Pl.flatL, Pl.sizeL]
  | p :: r, B, o => by
    have h := flatL_app r B (o + p.size)
    have e : o + p.size + Pl.sizeL r = o + (p.size + Pl.sizeL r) := by omega
    simp only [List.cons_append, Pl.flatL, Pl.sizeL, h, e, List.append_assoc]
theorem roots_app : ∀ (A B : List Pl) (o : Nat), roots o (A ++ B) = roots o A ++ roots (o + Pl.sizeL A) B
  | [], B, o => by simp [roots, Pl.sizeL]
  | p :: r, B, o => by
    have h := roots_app r B (o + p.size)
    have e : o + p.size + Pl.sizeL r = o + (p.size + Pl.sizeL r) := by omega
    simp only [List.cons_append, roots, Pl.sizeL, h, e]
theorem roots_length : ∀ (A : List Pl) (o : Nat), (roots o A).length = A.length
  | [], o => rfl
  | p :: r, o => by simp [roots, roots_length r]
theorem sizeL_one (p : Pl) : Pl.sizeL [p] = p.size := by simp [Pl.sizeL]
theorem flatL_one (o : Nat) (p : Pl) : Pl.flatL o [p] = p.flat o := by simp [Pl.flatL]
/-- a whole out of the last trees: one node more -/
theorem flatL_join (A B : List Pl) (k : Kd) : Pl.flatL 0 (A ++ [Pl.node k B]) = Pl.flatL 0 (A ++ B) ++ [Nd.whole k (roots (Pl.sizeL A) B)] := by
  rw [flatL_app, flatL_app, flatL_one, Pl.flat, Nat.zero_add, List.append_assoc]
theorem roots_join (A B : List Pl) (k : Kd) : roots 0 (A ++ [Pl.node k B]) = roots 0 A ++ [((Pl.sizeL (A ++ B) : Nat) : Int)] := by
  rw [roots_app, sizeL_app]
  show _ ++ [((0 + Pl.sizeL A + (Pl.node k B).size - 1 : Nat) : Int)] = _
  rw [show 0 + Pl.sizeL A + (Pl.node k B).size - 1 = Pl.sizeL A + Pl.sizeL B by rw [Pl.size]; omega]
/-! ### bounds -/
def KdOk : Kd → Nat → Prop
  | .plain _, n => 1 ≤ n ∧ n ≤ 6
  | .pool m, n => 1 ≤ n ∧ n ≤ 6 ∧ 1 ≤ m ∧ m ≤ 6
  | .timeout t, n => n = 1 ∧ 0 ≤ t ∧ t ≤ 1000
  | .orelse, n => n = 2
  | .retry r d, n => n = 1 ∧ 0 ≤ r ∧ r ≤ 5 ∧ 0 ≤ d ∧ d ≤ 100
def JobOk (d v c : Int) (f : Option Int) : Prop := (0 ≤ d ∧ d ≤ 1000) ∧ (0 ≤ v ∧ v ≤ 999) ∧ (0 ≤ c ∧ c ≤ 100) ∧ ∀ x, f = some x → 0 ≤ x ∧ x ≤ 999
inductive OkP : Pl → Prop where
  | job {d : Int} {g : Bool} {v c : Int} {f : Option Int} (h : JobOk d v c f) : OkP (.job d g v c f)
  | node {k : Kd} {ps : List Pl} (hk : KdOk k ps.length) (h : ∀ p ∈ ps, OkP p) : OkP (.node k ps)
/-! ### the greatest of some -/
theorem foldl_max_le {l : List Int} : ∀ {a m : Int}, a ≤ m → (∀ x ∈ l, x ≤ m) → l.foldl max a ≤ m := by
  induction l with
  | nil => intro a m h _; exact h
  | cons x r ih =>
    intro a m h hx
    exact ih (Int.max_le.mpr ⟨h, hx x (List.mem_cons_self ..)⟩) fun y hy => hx y (List.mem_cons_of_mem _ hy)
theorem le_foldl_max {l : List Int} : ∀ {a : Int}, a ≤ l.foldl max a ∧ ∀ x ∈ l, x ≤ l.foldl max a := by
  induction l with
  | nil => intro a; exact ⟨Int.le_refl _, by simp⟩
  | cons x r ih =>
    intro a
    obtain ⟨h1, h2⟩ := ih (a := max a x)
    refine ⟨Int.le_trans (Int.le_max_left ..) h1, fun y hy => ?_⟩
    rcases List.mem_cons.mp hy with e | hy
    · rw [e]; exact Int.le_trans (Int.le_max_right ..) h1
    · exact h2 y hy
theorem maxI_le {l : List Int} {m : Int} (h : 0 ≤ m) (hx : ∀ x ∈ l, x ≤ m) : maxI l ≤ m := foldl_max_le h hx
theorem le_maxI {l : List Int} {x : Int} (h : x ∈ l) : x ≤ maxI l := le_foldl_max.2 x h
theorem maxI_nn (l : List Int) : 0 ≤ maxI l := le_foldl_max.1
theorem maxI_mem {l : List Int} (hl : l ≠ []) (hn : ∀ x ∈ l, 0 ≤ x) : maxI l ∈ l := by
  have key : ∀ (l : List Int) (a : Int), l.foldl max a = a ∨ l.foldl max a ∈ l := by
    intro l
    induction l with
    | nil => intro a; exact .inl rfl
    | cons x r ih =>
      intro a
      rcases ih (max a x) with h | h
      · show r.foldl max (max a x) = a ∨ _
        rw [h]
        by_cases c : a ≤ x
        · exact .inr (by show r.foldl max (max a x) ∈ x :: r; rw [h, Int.max_eq_right c]; exact List.mem_cons_self ..)
        · exact .inl (Int.max_eq_left (by omega))
      · exact .inr (List.mem_cons_of_mem _ h)
  rcases key l 0 with h | h
  · cases l with
    | nil => exact absurd rfl hl
    | cons x r =>
      have h1 : x ≤ maxI (x :: r) := le_maxI (List.mem_cons_self ..)
      have h2 := hn x (List.mem_cons_self ..)
      have h3 : maxI (x :: r) = 0 := h
      have : x = 0 := by omega
      rw [h3, ← this]
      exact List.mem_cons_self ..
  · exact h
/-- the greatest, told by what it is -/
theorem maxI_eq {l : List Int} {m : Int} (hm : m ∈ l) (hx : ∀ x ∈ l, x ≤ m) (h0 : 0 ≤ m) : maxI l = m := Int.le_antisymm (maxI_le h0 hx) (le_maxI hm)
theorem maxI_app (l r : List Int) : maxI (l ++ r) = max (maxI l) (maxI r) := by
  apply Int.le_antisymm
  · refine maxI_le (Int.le_trans (maxI_nn l) (Int.le_max_left ..)) fun x hx => ?_
    rcases List.mem_append.mp hx with h | h
    · exact Int.le_trans (le_maxI h) (Int.le_max_left ..)
    · exact Int.le_trans (le_maxI h) (Int.le_max_right ..)
  · refine Int.max_le.mpr ⟨maxI_le (maxI_nn _) fun x hx => le_maxI (List.mem_append_left _ hx), maxI_le (maxI_nn _) fun x hx => le_maxI (List.mem_append_right _ hx)⟩
theorem maxI_one {x : Int} (h : 0 ≤ x) : maxI [x] = x := Int.max_eq_right h
/-! ### sizes by the nodes' row -/
structure Row where
  deep : Int
  runs : Int
  clean : Int
def rowN (rs : List Row) (i : Int) : Row := rs.getD i.toNat ⟨0, 0, 0⟩
def rowAt (rs : List Row) : Nd → Row
  | .job _ _ _ c _ => ⟨1, 1, c⟩
  | .whole k ps => ⟨1 + maxI (ps.map fun i => (rowN rs i).deep), times k * (ps.map fun i => (rowN rs i).runs).sum, maxI (ps.map fun i => (rowN rs i).clean)⟩
def rowsOn (rs : List Row) (ns : List Nd) : List Row := ns.foldl (fun rs n => rs ++ [rowAt rs n]) rs
def Pl.row (p : Pl) : Row := ⟨p.depth, p.runs, p.clean⟩
mutual
def Pl.rows : Pl → List Row
  | .job d g v c f => [Pl.row (.job d g v c f)]
  | .node k ps => Pl.rowsL ps ++ [Pl.row (.node k ps)]
def Pl.rowsL : List Pl → List Row
  | [] => []
  | p :: r => p.rows ++ Pl.rowsL r
end
mutual
theorem rows_length : ∀ p : Pl, p.rows.length = p.size
  | .job .. => by simp [Pl.rows, Pl.size]
  | .node k ps => by have h := rowsL_length ps; simp [Pl.rows, Pl.size, h]
theorem rowsL_length : ∀ ps : List Pl, (Pl.rowsL ps).length = Pl.sizeL ps
  | [] => by simp [Pl.rowsL, Pl.sizeL]
  | p :: r => by have h := rows_length p; have h2 := rowsL_length r; simp [Pl.rowsL, Pl.sizeL, h, h2]
end
theorem rows_last (p : Pl) : p.rows[p.size - 1]? = some p.row := by
  cases p with
  | job d g v c f => simp [Pl.rows, Pl.size]
  | node k ps =>
    have h := rowsL_length ps
    rw [Pl.rows, Pl.size, List.getElem?_append_right (by omega)]
    simp [h]
theorem roots_rows : ∀ (ps : List Pl) (rs : List Row) (o : Nat) (tl : List Row), rs.length = o → (roots o ps).map (rowN (rs ++ Pl.rowsL ps ++ tl)) = ps.map Pl.row
  | [], rs, o, tl, h => rfl
  | p :: r, rs, o, tl, h => by
    have hp := size_pos p
    have ih := roots_rows r (rs ++ p.rows) (o + p.size) tl (by rw [List.length_append, rows_length, h])
    have e1 : rs ++ Pl.rowsL (p :: r) ++ tl = rs ++ p.rows ++ Pl.rowsL r ++ tl := by rw [Pl.rowsL]; simp [List.append_assoc]
    rw [e1]
    show rowN _ _ :: (roots (o + p.size) r).map _ = _
    rw [ih]
    refine congrArg (· :: r.map Pl.row) ?_
    unfold rowN
    rw [Int.toNat_natCast, List.getD_eq_getElem?_getD]
    have e2 : (rs ++ p.rows ++ Pl.rowsL r ++ tl)[o + p.size - 1]? = some p.row := by
      rw [List.append_assoc, List.append_assoc, List.getElem?_append_right (by omega), List.getElem?_append_left (by rw [rows_length]; omega)]
      rw [show o + p.size - 1 - rs.length = p.size - 1 by omega]
      exact rows_last p
    rw [e2] <;> rfl
theorem rowsOn_app (rs : List Row) (a b : List Nd) : rowsOn rs (a ++ b) = rowsOn (rowsOn rs a) b := by
  unfold rowsOn
  rw [List.foldl_append]
mutual
theorem rowsOn_flat : ∀ (p : Pl) (rs : List Row) (o : Nat), rs.length = o → rowsOn rs (p.flat o) = rs ++ p.rows
  | .job d g v c f, rs, o, h => by simp [Pl.flat, Pl.rows, rowsOn, rowAt, Pl.row, Pl.depth, Pl.runs, Pl.clean]
  | .node k ps, rs, o, h => by
    have ih := rowsOn_flatL ps rs o h
    rw [Pl.flat, rowsOn_app, ih, Pl.rows, ← List.append_assoc]
    show rs ++ Pl.rowsL ps ++ [rowAt (rs ++ Pl.rowsL ps) (.whole k (roots o ps))] = _
    refine congrArg (fun x => rs ++ Pl.rowsL ps ++ [x]) ?_
    have e := roots_rows ps rs o [] h
    rw [List.append_nil] at e
    have m : ∀ f : Row → Int, (roots o ps).map (fun i => f (rowN (rs ++ Pl.rowsL ps) i)) = ps.map fun p => f p.row := fun f => by
      have e2 := congrArg (List.map f) e
      rw [List.map_map, List.map_map] at e2
      exact e2
    show (⟨_, _, _⟩ : Row) = ⟨_, _, _⟩
    rw [m Row.deep, m Row.runs, m Row.clean, Pl.depth, Pl.runs, Pl.clean, depthL_map, runsL_map, cleanL_map]
    all_goals rfl
theorem rowsOn_flatL : ∀ (ps : List Pl) (rs : List Row) (o : Nat), rs.length = o → rowsOn rs (Pl.flatL o ps) = rs ++ Pl.rowsL ps
  | [], rs, o, h => by simp [Pl.flatL, Pl.rowsL, rowsOn]
  | p :: r, rs, o, h => by
    have h1 := rowsOn_flat p rs o h
    have h2 := rowsOn_flatL r (rs ++ p.rows) (o + p.size) (by rw [List.length_append, rows_length, h])
    rw [Pl.flatL, rowsOn_app, h1, h2, Pl.rowsL, List.append_assoc]
end
/-! ### the jobs' cleanups -/
def Nd.clean? : Nd → Option Int
  | .job _ _ _ c _ => some c
  | .whole .. => none
def cleans (ns : List Nd) : List Int := ns.filterMap Nd.clean?
mutual
theorem clean_flat : ∀ (p : Pl) (o : Nat), OkP p → p.clean = maxI (cleans (p.flat o)) ∧ 0 ≤ p.clean
  | .job d g v c f, o, h => by
    cases h with
    | job h =>
      have h0 := h.2.2.1.1
      refine ⟨?_, by rw [Pl.clean]; exact h0⟩
      rw [Pl.clean, Pl.flat]
      show c = maxI [c]
      rw [maxI_one h0]
  | .node k ps, o, h => by
    cases h with
    | node hk h =>
      have e := clean_flatL ps o h
      refine ⟨?_, by rw [Pl.clean]; exact maxI_nn _⟩
      rw [Pl.clean, Pl.flat, e]
      show _ = maxI (List.filterMap Nd.clean? (Pl.flatL o ps ++ [Nd.whole k (roots o ps)]))
      rw [List.filterMap_append]
      show maxI (cleans (Pl.flatL o ps)) = maxI (cleans (Pl.flatL o ps) ++ [])
      rw [List.append_nil]
theorem clean_flatL : ∀ (ps : List Pl) (o : Nat), (∀ p ∈ ps, OkP p) → maxI (Pl.cleanL ps) = maxI (cleans (Pl.flatL o ps))
  | [], o, h => by simp [Pl.cleanL, Pl.flatL, cleans]
  | p :: r, o, h => by
    obtain ⟨h1, h0⟩ := clean_flat p o (h p (List.mem_cons_self ..))
    have h2 := clean_flatL r (o + p.size) fun q hq => h q (List.mem_cons_of_mem _ hq)
    rw [Pl.cleanL, Pl.flatL]
    show maxI ([p.clean] ++ Pl.cleanL r) = maxI (List.filterMap Nd.clean? (p.flat o ++ Pl.flatL (o + p.size) r))
    rw [maxI_app, maxI_one h0, List.filterMap_append, h1]
    show max _ (maxI (Pl.cleanL r)) = maxI (cleans (p.flat o) ++ cleans (Pl.flatL (o + p.size) r))
    rw [maxI_app, h2]
end
end LB

set_option maxRecDepth 100000
set_option maxHeartbeats 2000000
namespace LB
open PySem PySem.Spec PyProof.Rows L2
/-! ### max(xs, default=d) of a list of ints -/
theorem reads_ints {h : Heap} : ∀ {its : List Value} {ns : List Int}, IntsAre its ns → ReadsAll h its (ns.map PyData.int) []
  | _, _, .nil => .nil
  | _, _, .cons n t r => ReadsAll.cons (as := []) (bs := []) (.int n t) (reads_ints r)
theorem foldl_max_mem : ∀ (l : List Int) (x : Int), l.foldl max x = x ∨ l.foldl max x ∈ l
  | [], x => .inl rfl
  | y :: r, x => by
    rcases foldl_max_mem r (max x y) with h | h
    · by_cases c : x ≤ y
      · exact .inr (by show r.foldl max (max x y) ∈ y :: r; rw [h, Int.max_eq_right c]; exact List.mem_cons_self ..)
      · exact .inl (by show r.foldl max (max x y) = x; rw [h, Int.max_eq_left (by omega)])
    · exact .inr (List.mem_cons_of_mem _ h)
theorem foldl_max_ge : ∀ (l : List Int) (x : Int), x ≤ l.foldl max x ∧ ∀ y ∈ l, y ≤ l.foldl max x
  | [], x => ⟨Int.le_refl _, fun y h => nomatch h⟩
  | y :: r, x => by
    obtain ⟨h1, h2⟩ := foldl_max_ge r (max x y)
    refine ⟨Int.le_trans (Int.le_max_left x y) h1, fun z hz => ?_⟩
    rcases List.mem_cons.mp hz with e | hz
    · rw [e]; exact Int.le_trans (Int.le_max_right x y) h1
    · exact h2 z hz
def rMaxD (K : PySem.W.Frag) : List V → List V → Hp → VK → Prop := fun xs zs H Q => ∃ (a : Addr) (ns : List Int) (d : Int), xs = [.ref a] ∧ zs = [.int d] ∧ SqL K H a (ns.map V.int) ∧ (ns = [] → Q (.int d) H) ∧ ∀ m, m ∈ ns → (∀ y ∈ ns, y ≤ m) → Q (.int m) H
theorem call_maxD {X : Cx} (hc : X.calm = true) (hu : X.A.units + 64 < cLine) : CallRK X (.builtin "max") ["default"] (rMaxD X.K) := by
  intro pins s σ H xs zs us ws Q I rx rz h
  obtain ⟨a, ns, d, rfl, rfl, hs, q0, q1⟩ := h
  obtain ⟨its, rv, hl, _⟩ := I.list hs
  rw [Vals.ref1 rx]
  match ws, rz with
  | [u], .cons ru .nil =>
    obtain ⟨t, rfl⟩ := ru
    have al : PySem.W.AlikeAll (ns.map PyData.int) := by
      refine ⟨fun x hx y hy => ?_, fun x hx e => ?_⟩
      · obtain ⟨i, _, rfl⟩ := List.mem_map.mp hx
        obtain ⟨j, _, rfl⟩ := List.mem_map.mp hy
        simp [PySem.W.alike]
      · obtain ⟨i, _, rfl⟩ := List.mem_map.mp hx
        cases e
    have dp : ∀ l : List Int, PyData.depthAll (l.map PyData.int) = 0 := by
      intro l
      induction l with
      | nil => rfl
      | cons x r ih =>
        show max 0 (PyData.depthAll (r.map PyData.int)) = 0
        rw [ih] <;> rfl
    show wpAny (model X.prog X.w) X.A (call (.builtin "max") [.ref a] [(Str.ofString "default", .int d t)]) _ _ _
    refine PySem.W.max_list_default (I.ok.hd hc) hl.isList (by rw [List.toList_toArray]; exact reads_ints rv.ints) al (by rw [dp]; omega) (fun e h' tk hk => ?_) (fun y ys i v h' tk bs e hi r hk => ?_)
    · exact ⟨.int d, H, I.kept hk, ⟨t, rfl⟩, q0 (List.map_eq_nil_iff.mp e)⟩
    · match ns, e with
      | n :: ms, e =>
        injection e with e1 e2
        subst e1 e2
        rw [PySem.W.maxD_ints] at r
        cases r with
        | int _ t' =>
          refine ⟨.int _, H, I.kept hk, ⟨_, rfl⟩, q1 _ ?_ fun y hy => ?_⟩
          · rcases foldl_max_mem ms n with h | h
            · rw [h]; exact List.mem_cons_self ..
            · exact List.mem_cons_of_mem _ h
          · obtain ⟨h1, h2⟩ := foldl_max_ge ms n
            rcases List.mem_cons.mp hy with e | hy
            · rw [e]; exact h1
            · exact h2 y hy
end LB

set_option maxRecDepth 100000
set_option maxHeartbeats 2000000
namespace LB
/-! ### a plan's nodes: parts, bounds, rows -/
def Nd.parts : Nd → List Int
  | .job .. => []
  | .whole _ ps => ps
def NdOk : Nd → Prop
  | .job d _ v c f => JobOk d v c f
  | .whole k ps => KdOk k ps.length
/-- every part stands ahead of its node -/
def Back (o : Nat) (ns : List Nd) : Prop := ∀ (i : Nat) (n : Nd), ns[i]? = some n → ∀ q ∈ n.parts, 0 ≤ q ∧ q < ((o + i : Nat) : Int)
theorem roots_in : ∀ (ps : List Pl) (o : Nat), ∀ q ∈ roots o ps, (o : Int) ≤ q ∧ q < ((o + Pl.sizeL ps : Nat) : Int)
  | [], o, q, h => nomatch h
  | p :: r, o, q, h => by
    have hp := size_pos p
    rcases List.mem_cons.mp h with e | h
    · rw [e, Pl.sizeL]; omega
    · have ih := roots_in r (o + p.size) q h
      rw [Pl.sizeL]
      omega
theorem back_app {o : Nat} {a c : List Nd} (ha : Back o a) (hc : Back (o + a.length) c) : Back o (a ++ c) := by
  intro i n h q hq
  by_cases z : i < a.length
  · rw [List.getElem?_append_left z] at h
    exact ha i n h q hq
  · rw [List.getElem?_append_right (by omega)] at h
    have := hc _ n h q hq
    omega
mutual
theorem flat_back : ∀ (p : Pl) (o : Nat), Back o (p.flat o)
  | .job d g v c f, o => by
    intro i n h q hq
    rw [Pl.flat] at h
    match i, h with
    | 0, h =>
      have e : Nd.job d g v c f = n := by simpa using h
      rw [← e] at hq
      exact nomatch hq
    | i + 1, h => simp at h
  | .node k ps, o => by
    rw [Pl.flat]
    refine back_app (flatL_back ps o) ?_
    rw [flatL_length]
    intro i n h q hq
    match i, h with
    | 0, h =>
      have e : Nd.whole k (roots o ps) = n := by simpa using h
      rw [← e] at hq
      have h3 := roots_in ps o q hq
      have h4 : ((o + Pl.sizeL ps + 0 : Nat) : Int) = ((o + Pl.sizeL ps : Nat) : Int) := rfl
      exact ⟨Int.le_trans (Int.natCast_nonneg o) h3.1, by rw [h4]; exact h3.2⟩
    | i + 1, h => simp at h
theorem flatL_back : ∀ (ps : List Pl) (o : Nat), Back o (Pl.flatL o ps)
  | [], o => by intro i n h; simp [Pl.flatL] at h
  | p :: r, o => by
    rw [Pl.flatL]
    refine back_app (flat_back p o) ?_
    rw [flat_length]
    exact flatL_back r (o + p.size)
end
mutual
theorem flat_ok : ∀ (p : Pl) (o : Nat), OkP p → ∀ n ∈ p.flat o, NdOk n
  | .job d g v c f, o, h, n, hn => by
    cases h with
    | job h =>
      rw [Pl.flat] at hn
      rw [List.mem_singleton.mp hn]
      exact h
  | .node k ps, o, h, n, hn => by
    cases h with
    | node hk h =>
      rw [Pl.flat] at hn
      rcases List.mem_append.mp hn with q | q
      · exact flatL_ok ps o h n q
      · rw [List.mem_singleton.mp q]
        show KdOk k (roots o ps).length
        rw [roots_length]
        exact hk
theorem flatL_ok : ∀ (ps : List Pl) (o : Nat), (∀ p ∈ ps, OkP p) → ∀ n ∈ Pl.flatL o ps, NdOk n
  | [], o, h, n, hn => by simp [Pl.flatL] at hn
  | p :: r, o, h, n, hn => by
    rw [Pl.flatL] at hn
    rcases List.mem_append.mp hn with q | q
    · exact flat_ok p o (h p (List.mem_cons_self ..)) n q
    · exact flatL_ok r (o + p.size) (fun q hq => h q (List.mem_cons_of_mem _ hq)) n q
end
theorem KdOk.pos {k : Kd} {n : Nat} (h : KdOk k n) : 1 ≤ n := by
  cases k with
  | plain _ => exact h.1
  | pool _ => exact h.1
  | timeout _ => have := h.1; omega
  | orelse => have e : n = 2 := h; omega
  | retry _ _ => have := h.1; omega
theorem KdOk.times {k : Kd} {n : Nat} (h : KdOk k n) : 1 ≤ times k ∧ times k ≤ 6 := by
  cases k with
  | retry r d =>
    obtain ⟨_, h1, h2, _⟩ := h
    show 1 ≤ r + 1 ∧ r + 1 ≤ 6
    omega
  | plain _ => exact ⟨(by decide : (1 : Int) ≤ 1), (by decide : (1 : Int) ≤ 6)⟩
  | pool _ => exact ⟨(by decide : (1 : Int) ≤ 1), (by decide : (1 : Int) ≤ 6)⟩
  | timeout _ => exact ⟨(by decide : (1 : Int) ≤ 1), (by decide : (1 : Int) ≤ 6)⟩
  | orelse => exact ⟨(by decide : (1 : Int) ≤ 1), (by decide : (1 : Int) ≤ 6)⟩
/-- there is a job -/
theorem cleans_ne : ∀ (p : Pl) (o : Nat), OkP p → cleans (p.flat o) ≠ []
  | .job .., o, h => by simp [Pl.flat, cleans, Nd.clean?]
  | .node k ps, o, h => by
    cases h with
    | node hk h =>
      match ps, h, hk with
      | [], _, hk => have := hk.pos; simp at this
      | p :: r, h, _ =>
        have ih := cleans_ne p o (h p (List.mem_cons_self ..))
        rw [Pl.flat, Pl.flatL]
        unfold cleans
        rw [List.append_assoc, List.filterMap_append]
        intro e
        exact ih (List.append_eq_nil_iff.mp e).1
/-- the greatest cleanup -/
theorem clean_max {p : Pl} {o : Nat} (h : OkP p) {m : Int} (hm : m ∈ cleans (p.flat o)) (hx : ∀ x ∈ cleans (p.flat o), x ≤ m) : p.clean = m := by
  rw [(clean_flat p o h).1]
  refine maxI_eq hm hx ?_
  obtain ⟨n, hn, e⟩ := List.mem_filterMap.mp hm
  cases n with
  | job d g v c f =>
    have ok := flat_ok p o h _ hn
    have e : c = m := Option.some.inj e
    rw [← e]
    exact ok.2.2.1.1
  | whole k ps => cases e
theorem cleans_bound {p : Pl} {o : Nat} (h : OkP p) {m : Int} (hm : m ∈ cleans (p.flat o)) : 0 ≤ m ∧ m ≤ 100 := by
  obtain ⟨n, hn, e⟩ := List.mem_filterMap.mp hm
  cases n with
  | job d g v c f =>
    have ok := flat_ok p o h _ hn
    have e : c = m := Option.some.inj e
    rw [← e]
    exact ok.2.2.1
  | whole k ps => cases e
/-- the rows of a row of nodes -/
theorem rowsOn_length (rs : List Row) (ns : List Nd) : (rowsOn rs ns).length = rs.length + ns.length := by
  induction ns generalizing rs with
  | nil => rfl
  | cons n r ih =>
    show (rowsOn (rs ++ [rowAt rs n]) r).length = _
    rw [ih]
    simp
    omega
theorem take_succ {α : Type} {l : List α} {i : Nat} {x : α} (h : l[i]? = some x) : l.take (i + 1) = l.take i ++ [x] := by
  rw [List.take_add_one, h]
  rfl
theorem rowsOn_take {ns : List Nd} {i : Nat} {n : Nd} (h : ns[i]? = some n) : rowsOn [] (ns.take (i + 1)) = rowsOn [] (ns.take i) ++ [rowAt (rowsOn [] (ns.take i)) n] := by
  rw [take_succ h, rowsOn_app]
  rfl
theorem deep_pos : ∀ (ns : List Nd) (rs : List Row), (∀ r ∈ rs, 1 ≤ r.deep) → ∀ r ∈ rowsOn rs ns, 1 ≤ r.deep
  | [], rs, h => h
  | n :: t, rs, h => by
    refine deep_pos t (rs ++ [rowAt rs n]) fun r hr => ?_
    rcases List.mem_append.mp hr with q | q
    · exact h r q
    · rw [List.mem_singleton.mp q]
      cases n with
      | job => exact Int.le_refl 1
      | whole k ps =>
        show 1 ≤ 1 + maxI _
        have := maxI_nn (ps.map fun i => (rowN rs i).deep)
        omega
theorem rowN_mem {rs : List Row} {q : Int} (h0 : 0 ≤ q) (h1 : q < (rs.length : Int)) : rowN rs q ∈ rs ∧ rs[q.toNat]? = some (rowN rs q) := by
  have h : q.toNat < rs.length := by omega
  have e : rowN rs q = rs[q.toNat] := by
    unfold rowN
    rw [List.getD_eq_getElem?_getD, List.getElem?_eq_getElem h] <;> rfl
  rw [e]
  exact ⟨List.getElem_mem h, List.getElem?_eq_getElem h⟩
theorem rows_flat (p : Pl) : rowsOn [] (p.flat 0) = p.rows := by
  have h := rowsOn_flat p [] 0 rfl
  rw [h] <;> rfl
mutual
theorem rows_deep : ∀ (p : Pl), ∀ r ∈ p.rows, 1 ≤ r.deep ∧ r.deep ≤ p.depth
  | .job d g v c f, r, hr => by
    rw [Pl.rows] at hr
    rw [List.mem_singleton.mp hr]
    show 1 ≤ (Pl.job d g v c f).depth ∧ (Pl.job d g v c f).depth ≤ _
    rw [Pl.depth]
    decide
  | .node k ps, r, hr => by
    rw [Pl.rows] at hr
    rcases List.mem_append.mp hr with q | q
    · obtain ⟨h1, x, hx, h2⟩ := rowsL_deep ps r q
      refine ⟨h1, ?_⟩
      rw [Pl.depth, depthL_map]
      have := le_maxI (List.mem_map_of_mem (f := Pl.depth) hx)
      omega
    · rw [List.mem_singleton.mp q]
      show 1 ≤ (Pl.node k ps).depth ∧ (Pl.node k ps).depth ≤ _
      refine ⟨?_, Int.le_refl _⟩
      rw [Pl.depth]
      have := maxI_nn (Pl.depthL ps)
      omega
theorem rowsL_deep : ∀ (ps : List Pl), ∀ r ∈ Pl.rowsL ps, 1 ≤ r.deep ∧ ∃ x ∈ ps, r.deep ≤ x.depth
  | [], r, hr => by simp [Pl.rowsL] at hr
  | p :: t, r, hr => by
    rw [Pl.rowsL] at hr
    rcases List.mem_append.mp hr with q | q
    · obtain ⟨h1, h2⟩ := rows_deep p r q
      exact ⟨h1, p, List.mem_cons_self .., h2⟩
    · obtain ⟨h1, x, hx, h2⟩ := rowsL_deep t r q
      exact ⟨h1, x, List.mem_cons_of_mem _ hx, h2⟩
end
/-! ### folds -/
theorem fold_deep : ∀ (l : List Int) (a : Int), l.foldl (fun x d => max x (d + 1)) (1 + a) = 1 + l.foldl max a
  | [], a => rfl
  | d :: r, a => by
    show r.foldl _ (max (1 + a) (d + 1)) = 1 + r.foldl max (max a d)
    rw [show max (1 + a) (d + 1) = 1 + max a d by omega]
    exact fold_deep r (max a d)
def isJob : Nd → Bool
  | .job .. => true
  | .whole .. => false
end LB

set_option maxRecDepth 100000
set_option maxHeartbeats 2000000
namespace LB
open PySem PySem.Spec PyProof.Rows L2
def top (i : Nat) : Stmt := PySem.Challenge.pw_asforetold_k04_sizes_of_plans.main.body.getD i (.Pass ⟨0, 0, 0, 0⟩)
abbrev sParts : Stmt := top 1
abbrev sDepths : Stmt := top 2
abbrev sJobCount : Stmt := top 3
abbrev sJobRuns : Stmt := top 4
abbrev sTimes : Stmt := top 5
abbrev sLongest : Stmt := top 6
abbrev sCell : Stmt := top 8
abbrev sDigits : Stmt := top 9
abbrev sDraw : Stmt := top 10
abbrev sJob : Stmt := top 11
abbrev sWhole : Stmt := top 12
abbrev sPlan : Stmt := top 13
abbrev sLParts : Stmt := top 14
abbrev sLSizes : Stmt := top 15
abbrev sAlike : Stmt := top 16
abbrev sLaw : Stmt := top 17
end LB

set_option maxRecDepth 100000
set_option maxHeartbeats 4000000
namespace LB
open PySem PySem.Spec PyProof.Rows L2
/-! ### the helpers of a law -/
/-- built-ins' names that the module leaves free -/
structure Names (mg : Str → Option Value) : Prop where
  len : mg "len" = none
  range : mg "range" = none
  int : mg "int" = none
  repr : mg "repr" = none
section
variable {P : Program} {w : World} {K : PySem.W.Frag} {mg : Str → Option Value} {base : Heap}
/-- some int comes back -/
def spCellL (K : PySem.W.Frag) : Sp := fun vs H Q _ => ∃ (a : Addr) (ns : List Int) (k : Int), vs = [.ref a, .int k] ∧ SqL K H a (ns.map V.int) ∧ 0 ≤ k ∧ ∀ c : Int, Q (.int c) H
theorem scCell : FnScope ["script", "k"] ["script", "k"] (defScope sCell) := ⟨rfl, rfl, rfl, by decide +kernel, rfl, by decide +kernel, by decide +kernel⟩
theorem ok_cell {f : Addr} {fd : FuncData} (F : Fun K "_law_cell" "_law_cell" sCell f fd) (M : Names mg) : FnOk P w K mg base CX0 1 f fd ["script", "k"] (spCellL K) := by
  refine F.ok scCell (fun vs H Q E h => ?_) (fun cdv A outer s H vs Q E hr h => ?_)
  · obtain ⟨a, ns, k, rfl, _⟩ := h
    rfl
  · obtain ⟨a, ns, k, rfl, hS, h0, q⟩ := h
    refine ⟨_, (pss_cons (ps_if (pt_cmpR op_lt (pv 1) (pe_callB call_len_seq (by rfl) M.len PySem.boot_len (pa_cons (pv 0) pa_nil)) (nomark _)) (pss_one (ps_ret (pe_ix ix_list (pv 0) (pv 1) (fun _ _ => rfl)))) pss_nil)
        (pss_one (ps_ret pe_int))), ?_⟩
    refine ⟨_, rfl, _, rfl, a, _, rfl, .inl hS, _, _, rfl, rfl, _, rfl, ?_⟩
    refine ite2 (fun c => ?_) (fun c => q 0)
    have lt := of_decide_eq_true c
    rw [List.length_map] at lt
    obtain ⟨j, rfl⟩ : ∃ j : Nat, k = (j : Int) := ⟨k.toNat, by omega⟩
    have hj : j < ns.length := by omega
    exact ⟨_, rfl, _, rfl, a, _, _, _, rfl, rfl, hS, atI_nat (v := V.int ns[j]) (by rw [List.getElem?_map, List.getElem?_eq_getElem hj]; rfl), q _⟩
/-- a number of three digits at most -/
def Dig (i : Int) : Prop := 0 ≤ i ∧ i < 1000
/-- a new list of at most 63 * 60 such numbers -/
def spDigits (K : PySem.W.Frag) : Sp := fun vs H Q _ => ∃ (a : Addr) (ns : List Int) (i j : Int), vs = [.ref a, .int i, .int j] ∧ SqL K H a (ns.map V.int) ∧ 0 ≤ i ∧ i ≤ j ∧ j ≤ 63 ∧
  ∀ (ds : List Int) (H' : Hp) (p : Addr), Same H H' → H p = none → H' p = some (.lst (ds.map V.int)) → (∀ d ∈ ds, Dig d) → ds.length ≤ 3780 → Q (.ref p) H'
theorem scDigits : FnScope ["script", "first", "last", "digits", "k", "cell", "turn", "seed"] ["script", "first", "last"] (defScope sDigits) := ⟨rfl, rfl, rfl, by decide +kernel, rfl, by decide +kernel, by decide +kernel⟩
theorem same_upd {H H' : Hp} {p : Addr} {o : HO} (e : Same H H') (n : H p = none) : Same H (upd H' p o) := fun b u q => by
  rw [upd_ne (ne_of_none q n)]
  exact e b u q
theorem dig_more {c : Int} {ds : List Int} (h : ∀ d ∈ ds, Dig d) : ∀ d ∈ ds ++ [c % 1000], Dig d := by
  intro d hd
  rcases List.mem_append.mp hd with h1 | h1
  · exact h d h1
  · rw [List.mem_singleton.mp h1]
    exact ⟨Int.emod_nonneg _ (by decide), Int.emod_lt_of_pos _ (by decide)⟩
theorem lst_more {ds : List Int} {c : Int} : HO.lst (ds.map V.int ++ [V.int c]) = HO.lst ((ds ++ [c]).map V.int) := by rw [List.map_append] <;> rfl
theorem small_line {n : Nat} (h : n ≤ 4000) : n < sizeLine := Nat.lt_of_le_of_lt h (by decide)
theorem ok_digits {f fC : Addr} {fd fdC : FuncData} (F : Fun K "_law_digits" "_law_digits" sDigits f fd) (M : Names mg) (FC : Fun K "_law_cell" "_law_cell" sCell fC fdC) (mCell : mg "_law_cell" = some (.ref fC)) (bCell : Binds K fdC ["script", "k"] []) :
    FnOk P w K mg base CX0 2 f fd ["script", "first", "last"] (spDigits K) := by
  have GCell : FnOk P w K mg base CX0 1 fC fdC ["script", "k"] (spCellL K) := ok_cell FC M
  have kCell := FC.kp
  refine F.ok scDigits (fun vs H Q E h => ?_) (fun cdv A outer s H vs Q E hr h => ?_)
  · obtain ⟨a, ns, i, j, rfl, _⟩ := h
    rfl
  · obtain ⟨a, ns, i, j, rfl, hS, h0, hij, hj, q⟩ := h
    have nd := scDigits.nd
    refine ⟨_, (pss_cons (ps_set (i := 3) nd rfl (Or.inl rfl) (pe_lst pa_nil))
        (pss_cons (ps_for PassesOwn.never rfl (pi_range2 (by rfl) M.range (pa_cons (pv 1) (pa_cons (pv 2) pa_nil))) (pg_name (i := 4) nd rfl (Or.inl rfl)) (pss_cons (ps_set (i := 5) nd rfl (Or.inl rfl) (pe_call GCell (hr.mono (by decide)) rfl mCell kCell bCell .nil pass0 (pa_cons (pv 0) (pa_cons (pv 4) pa_nil))))
        (pss_cons (ps_if (pt_cmpR op_lt (pv 5) pe_int (nomark _)) (pss_one (ps_set (i := 5) nd rfl (Or.inl rfl) (pe_op op_sub pe_int (pe_op op_mul pe_int (pv 5))))) pss_nil)
        (pss_one (ps_if (pt_cmpR op_ge (pv 5) pe_int (nomark _)) (pss_one (ps_for PassesOwn.never rfl (pi_range1 (by rfl) M.range (pa_cons pe_int pa_nil)) (pg_name (i := 6) nd rfl (Or.inl rfl)) (pss_one (ps_if (pt_cmpR op_gt (pv 5) pe_int (nomark _)) (pss_cons (ps_expr (pe_bm PySem.F.plainAttrs_list PySem.F.slot_list_append PySem.F.type_list_append mt_append (pv 3) (pa_cons (pe_op op_mod (pe_callTy call_int1 (by rfl) M.int (by decide +kernel) (pa_cons (pv 5) pa_nil)) pe_int) pa_nil)))
        (pss_one (ps_set (i := 5) nd rfl (Or.inl rfl) (pe_op op_fdiv (pv 5) pe_int)))) pss_nil)))) (pss_cons (ps_set (i := 7) nd rfl (Or.inl rfl) (pe_op op_mod (pe_callTy call_int1 (by rfl) M.int (by decide +kernel) (pa_cons (pe_op op_add (pe_op op_add (pe_op op_mul (pv 5) pe_int) (pe_op op_mul (pv 4) pe_int)) pe_int) pa_nil)) pe_int))
        (pss_one (ps_for PassesOwn.never rfl (pi_range1 (by rfl) M.range (pa_cons pe_int pa_nil)) (pg_name (i := 6) nd rfl (Or.inl rfl)) (pss_cons (ps_set (i := 7) nd rfl (Or.inl rfl) (pe_op op_mod (pe_callTy call_int1 (by rfl) M.int (by decide +kernel) (pa_cons (pe_op op_add (pe_op op_add (pe_op op_mul (pv 7) pe_int) (pe_op op_mul pe_int (pv 6))) pe_int) pa_nil)) pe_int))
        (pss_one (ps_expr (pe_bm PySem.F.plainAttrs_list PySem.F.slot_list_append PySem.F.type_list_append mt_append (pv 3) (pa_cons (pe_op op_mod (pe_callTy call_int1 (by rfl) M.int (by decide +kernel) (pa_cons (pe_op op_fdiv (pv 7) pe_int) pa_nil)) pe_int) pa_nil)))))))))))))
        (pss_one (ps_ret (pv 3))))), ?_⟩
    refine ⟨(by show 0 ≤ sizeLine; decide), fun p hp => ?_⟩
    refine ⟨_, rfl, _, rfl, i, j, rfl, ⟨by omega, by omega, by omega, by omega⟩, ?_⟩
    refine for_range (lo := i) (n := (j - i).toNat) (fun m σ H' => ∃ (ds : List Int) (v4 v5 v6 v7 : Option V), σ = [some (.ref a), some (.int i), some (.int j), some (.ref p), v4, v5, v6, v7] ∧ Same H H' ∧ H' p = some (.lst (ds.map V.int)) ∧ (∀ d ∈ ds, Dig d) ∧ ds.length ≤ 60 * m)
      ⟨[], none, none, none, none, rfl, same_upd (Same.refl H) hp, upd_same, by simp, by simp⟩ ?_ ?_
    · rintro m σ H' hm ⟨ds, v4, v5, v6, v7, rfl, sm, hl, hd, hlen⟩
      refine ⟨_, rfl, _, rfl, a, ns, _, rfl, sm.seq hS, by omega, fun c => ?_⟩
      refine ⟨_, rfl, _, _, rfl, rfl, _, rfl, ?_⟩
      refine ite2 (fun _ => ?_) (fun _ => ?_)
      · refine ⟨_, rfl, _, _, rfl, rfl, .inl ⟨by decide, by decide⟩, _, _, rfl, rfl, ?_⟩
        generalize (1 : Int) - 2 * c = c'
        (refine ⟨_, rfl, _, _, rfl, rfl, _, rfl, ?_⟩
         refine ite2 (fun _ => ?_) (fun _ => ?_)
         · refine ⟨60, rfl, by decide, by decide, for_range (n := 60) (fun t σ H2 => ∃ (ds : List Int) (c : Int) (v6 : Option V), σ = [some (.ref a), some (.int i), some (.int j), some (.ref p), some (.int (i + m)), some (.int c), v6, v7] ∧ Same H H2 ∧ H2 p = some (.lst (ds.map V.int)) ∧ (∀ d ∈ ds, Dig d) ∧ ds.length ≤ 60 * m + t)
             ⟨ds, _, v6, rfl, sm, hl, hd, by omega⟩ ?_ ?_⟩
           · rintro t σ H2 ht ⟨ds, c, v6, rfl, sm, hl, hd, hlen⟩
             refine ⟨_, rfl, _, _, rfl, rfl, _, rfl, ?_⟩
             refine ite2 (fun _ => ?_) (fun _ => ?_)
             · refine ⟨_, rfl, .inl ⟨rfl, _, SqL.of hl⟩, _, rfl, .inl ⟨_, rfl, _, _, rfl, rfl, (by show (0 : Int) < 1000; decide), p, _, _, rfl, rfl, hl, (by rw [List.length_map]; exact small_line (by omega)), ?_⟩⟩
               refine ⟨_, rfl, _, _, rfl, rfl, ⟨by decide, by decide⟩, ?_⟩
               exact ⟨ds ++ [c % 1000], _, _, rfl, same_upd sm hp, upd_same.trans (congrArg some lst_more), dig_more hd, by rw [List.length_append, List.length_singleton]; omega⟩
             · exact ⟨ds, _, _, rfl, sm, hl, hd, by omega⟩
           · rintro σ H2 ⟨ds, c, v6, rfl, sm, hl, hd, hlen⟩
             exact ⟨ds, _, _, _, _, rfl, sm, hl, hd, by omega⟩
         · refine ⟨_, rfl, _, _, rfl, rfl, .inr ⟨by decide, by decide⟩, _, rfl, _, _, rfl, rfl, .inr ⟨by decide, by decide⟩, _, _, rfl, rfl, _, _, rfl, rfl, .inl ⟨_, rfl, _, _, rfl, rfl, (by show (0 : Int) < 2147483399; decide), ?_⟩⟩
           refine ⟨12, rfl, by decide, by decide, for_range (n := 12) (fun t σ H2 => ∃ (ds : List Int) (c : Int) (v6 : Option V) (s7 : Int), σ = [some (.ref a), some (.int i), some (.int j), some (.ref p), some (.int (i + m)), some (.int c), v6, some (.int s7)] ∧ Same H H2 ∧ H2 p = some (.lst (ds.map V.int)) ∧ (∀ d ∈ ds, Dig d) ∧ ds.length ≤ 60 * m + t)
             ⟨ds, _, v6, _, rfl, sm, hl, hd, by omega⟩ ?_ ?_⟩
           · rintro t σ H2 ht ⟨ds, c, v6, s7, rfl, sm, hl, hd, hlen⟩
             refine ⟨_, rfl, _, _, rfl, rfl, .inr ⟨by decide, by decide⟩, _, rfl, _, _, rfl, rfl, .inl ⟨by decide, by decide⟩, _, _, rfl, rfl, _, _, rfl, rfl, .inl ⟨_, rfl, _, _, rfl, rfl, (by show (0 : Int) < 2147483563; decide), ?_⟩⟩
             refine ⟨_, rfl, .inl ⟨rfl, _, SqL.of hl⟩, _, rfl, _, _, rfl, rfl, ⟨by decide, by decide⟩, .inl ⟨_, rfl, _, _, rfl, rfl, (by show (0 : Int) < 1000; decide), p, _, _, rfl, rfl, hl, (by rw [List.length_map]; exact small_line (by omega)), ?_⟩⟩
             exact ⟨ds ++ [_ % 1000], _, _, _, rfl, same_upd sm hp, upd_same.trans (congrArg some lst_more), dig_more hd, by rw [List.length_append, List.length_singleton]; omega⟩
           · rintro σ H2 ⟨ds, c, v6, s7, rfl, sm, hl, hd, hlen⟩
             exact ⟨ds, _, _, _, _, rfl, sm, hl, hd, by omega⟩)
      · (refine ⟨_, rfl, _, _, rfl, rfl, _, rfl, ?_⟩
         refine ite2 (fun _ => ?_) (fun _ => ?_)
         · refine ⟨60, rfl, by decide, by decide, for_range (n := 60) (fun t σ H2 => ∃ (ds : List Int) (c : Int) (v6 : Option V), σ = [some (.ref a), some (.int i), some (.int j), some (.ref p), some (.int (i + m)), some (.int c), v6, v7] ∧ Same H H2 ∧ H2 p = some (.lst (ds.map V.int)) ∧ (∀ d ∈ ds, Dig d) ∧ ds.length ≤ 60 * m + t)
             ⟨ds, _, v6, rfl, sm, hl, hd, by omega⟩ ?_ ?_⟩
           · rintro t σ H2 ht ⟨ds, c, v6, rfl, sm, hl, hd, hlen⟩
             refine ⟨_, rfl, _, _, rfl, rfl, _, rfl, ?_⟩
             refine ite2 (fun _ => ?_) (fun _ => ?_)
             · refine ⟨_, rfl, .inl ⟨rfl, _, SqL.of hl⟩, _, rfl, .inl ⟨_, rfl, _, _, rfl, rfl, (by show (0 : Int) < 1000; decide), p, _, _, rfl, rfl, hl, (by rw [List.length_map]; exact small_line (by omega)), ?_⟩⟩
               refine ⟨_, rfl, _, _, rfl, rfl, ⟨by decide, by decide⟩, ?_⟩
               exact ⟨ds ++ [c % 1000], _, _, rfl, same_upd sm hp, upd_same.trans (congrArg some lst_more), dig_more hd, by rw [List.length_append, List.length_singleton]; omega⟩
             · exact ⟨ds, _, _, rfl, sm, hl, hd, by omega⟩
           · rintro σ H2 ⟨ds, c, v6, rfl, sm, hl, hd, hlen⟩
             exact ⟨ds, _, _, _, _, rfl, sm, hl, hd, by omega⟩
         · refine ⟨_, rfl, _, _, rfl, rfl, .inr ⟨by decide, by decide⟩, _, rfl, _, _, rfl, rfl, .inr ⟨by decide, by decide⟩, _, _, rfl, rfl, _, _, rfl, rfl, .inl ⟨_, rfl, _, _, rfl, rfl, (by show (0 : Int) < 2147483399; decide), ?_⟩⟩
           refine ⟨12, rfl, by decide, by decide, for_range (n := 12) (fun t σ H2 => ∃ (ds : List Int) (c : Int) (v6 : Option V) (s7 : Int), σ = [some (.ref a), some (.int i), some (.int j), some (.ref p), some (.int (i + m)), some (.int c), v6, some (.int s7)] ∧ Same H H2 ∧ H2 p = some (.lst (ds.map V.int)) ∧ (∀ d ∈ ds, Dig d) ∧ ds.length ≤ 60 * m + t)
             ⟨ds, _, v6, _, rfl, sm, hl, hd, by omega⟩ ?_ ?_⟩
           · rintro t σ H2 ht ⟨ds, c, v6, s7, rfl, sm, hl, hd, hlen⟩
             refine ⟨_, rfl, _, _, rfl, rfl, .inr ⟨by decide, by decide⟩, _, rfl, _, _, rfl, rfl, .inl ⟨by decide, by decide⟩, _, _, rfl, rfl, _, _, rfl, rfl, .inl ⟨_, rfl, _, _, rfl, rfl, (by show (0 : Int) < 2147483563; decide), ?_⟩⟩
             refine ⟨_, rfl, .inl ⟨rfl, _, SqL.of hl⟩, _, rfl, _, _, rfl, rfl, ⟨by decide, by decide⟩, .inl ⟨_, rfl, _, _, rfl, rfl, (by show (0 : Int) < 1000; decide), p, _, _, rfl, rfl, hl, (by rw [List.length_map]; exact small_line (by omega)), ?_⟩⟩
             exact ⟨ds ++ [_ % 1000], _, _, _, rfl, same_upd sm hp, upd_same.trans (congrArg some lst_more), dig_more hd, by rw [List.length_append, List.length_singleton]; omega⟩
           · rintro σ H2 ⟨ds, c, v6, s7, rfl, sm, hl, hd, hlen⟩
             exact ⟨ds, _, _, _, _, rfl, sm, hl, hd, by omega⟩)
    · rintro σ H' ⟨ds, v4, v5, v6, v7, rfl, sm, hl, hd, hlen⟩
      exact ⟨_, rfl, q ds H' p sm hp hl hd (by omega)⟩
end
end LB

set_option maxRecDepth 100000
set_option maxHeartbeats 4000000
namespace LB
open PySem PySem.Spec PyProof.Rows L2
/-! ### the box of draws -/
/-- at b: a list of the digits' list and of a place -/
def Box (H : Hp) (b : Addr) : Prop := ∃ (l : Addr) (ds : List Int) (n : Int), H b = some (.lst [.ref l, .int n]) ∧ H l = some (.lst (ds.map V.int)) ∧ b ≠ l ∧ 0 ≤ n ∧ ds.length ≤ 3780
/-- all stands but what is at b, and the list of the digits is the same one -/
structure But (b : Addr) (H H' : Hp) : Prop where
  k : ∀ a o, a ≠ b → H a = some o → H' a = some o
  d : ∀ l n, H b = some (.lst [.ref l, .int n]) → ∃ n' : Int, H' b = some (.lst [.ref l, .int n'])
theorem But.refl (b : Addr) (H : Hp) : But b H H := ⟨fun _ _ _ q => q, fun l n h => ⟨n, h⟩⟩
theorem But.trans {b : Addr} {H H1 H2 : Hp} (x : But b H H1) (y : But b H1 H2) : But b H H2 := ⟨fun a o n q => y.k a o n (x.k a o n q), fun l n h => let ⟨n', h'⟩ := x.d l n h; y.d l n' h'⟩
theorem But.of {b : Addr} {H H' : Hp} (e : Same H H') : But b H H' := ⟨fun a o _ q => e a o q, fun l n h => ⟨n, e _ _ h⟩⟩
theorem But.new {b : Addr} {H H' : Hp} {p : Addr} {o : HO} (x : But b H H') (n : H' p = none) : But b H (upd H' p o) :=
  ⟨fun a u na q => by
    have q' := x.k a u na q
    rw [upd_ne (ne_of_none q' n)]
    exact q', fun l m h => by
    obtain ⟨n', h'⟩ := x.d l m h
    exact ⟨n', by rw [upd_ne (ne_of_none h' n)]; exact h'⟩⟩
theorem But.seqT {K : PySem.W.Frag} {b : Addr} {H H' : Hp} {a : Addr} {xs : List V} (x : But b H H') (ne : ∀ ys, H b ≠ some (.tup ys)) (nf : ∀ o u, H b ≠ some (.frz o u)) (h : SqT K H a xs) : SqT K H' a xs := by
  rcases h with (h | ⟨o, h⟩) | h
  · exact .inl (.inl (x.k a _ (fun z => ne _ (z ▸ h)) h))
  · exact .inl (.inr ⟨o, x.k a _ (fun z => nf _ _ (z ▸ h)) h⟩)
  · exact .inr h
theorem Box.ne {H : Hp} {b : Addr} (B : Box H b) : (∀ ys, H b ≠ some (.tup ys)) ∧ ∀ o u, H b ≠ some (.frz o u) := by
  obtain ⟨l, ds, n, h, _⟩ := B
  rw [h]
  exact ⟨fun ys z => (by cases z), fun o u z => (by cases z)⟩
theorem Box.tup {K : PySem.W.Frag} {b : Addr} {H H' : Hp} {a : Addr} {xs : List V} (B : Box H b) (x : But b H H') (h : SqT K H a xs) : SqT K H' a xs := x.seqT B.ne.1 B.ne.2 h
theorem Box.new {H : Hp} {b p : Addr} {o : HO} (B : Box H b) (n : H p = none) : Box (upd H p o) b := by
  obtain ⟨l, ds, k, h, hl, r⟩ := B
  exact ⟨l, ds, k, by rw [upd_ne (ne_of_none h n)]; exact h, by rw [upd_ne (ne_of_none hl n)]; exact hl, r⟩
section
variable {P : Program} {w : World} {K : PySem.W.Frag} {mg : Str → Option Value} {base : Heap}
def spDraw (K : PySem.W.Frag) : Sp := fun vs H Q _ => ∃ (b : Addr) (m : Int), vs = [.ref b, .int m] ∧ Box H b ∧ 0 < m ∧ ∀ (r : Int) (H' : Hp), 0 ≤ r → r < m → Box H' b → But b H H' → Q (.int r) H'
theorem scDraw : FnScope ["box", "many", "at"] ["box", "many"] (defScope sDraw) := ⟨rfl, rfl, rfl, by decide +kernel, rfl, by decide +kernel, by decide +kernel⟩
theorem ok_draw {f : Addr} {fd : FuncData} (F : Fun K "_law_draw" "_law_draw" sDraw f fd) (M : Names mg) : FnOk P w K mg base CX0 1 f fd ["box", "many"] (spDraw K) := by
  refine F.ok scDraw (fun vs H Q E h => ?_) (fun cdv A outer s H vs Q E hr h => ?_)
  · obtain ⟨b, m, rfl, _⟩ := h
    rfl
  · obtain ⟨b, m, rfl, ⟨l, ds, n, hb, hl, ne, h0, hlen⟩, hm, q⟩ := h
    have nd := scDraw.nd
    refine ⟨_, (pss_cons (ps_set (i := 2) nd rfl (Or.inl rfl) (pe_ix ix_list (pv 0) pe_int (fun _ _ => rfl)))
        (pss_cons (ps_asg (pe_op op_add (pv 2) pe_int) (pg_sub (pv 0) pe_int set_list))
        (pss_cons (ps_if (pt_cmpR op_lt (pv 2) (pe_callB call_len_seq (by rfl) M.len PySem.boot_len (pa_cons (pe_ix ix_list (pv 0) pe_int (fun _ _ => rfl)) pa_nil)) (nomark _)) (pss_one (ps_ret (pe_op op_mod (pe_callTy call_int1 (by rfl) M.int (by decide +kernel) (pa_cons (pe_ix ix_list (pe_ix ix_list (pv 0) pe_int (fun _ _ => rfl)) (pv 2) (fun _ _ => rfl)) pa_nil)) (pv 1)))) pss_nil)
        (pss_one (ps_ret (pe_op op_mod (pe_callTy call_int1 (by rfl) M.int (by decide +kernel) (pa_cons (pe_op op_add (pe_op op_mul (pv 2) pe_int) pe_int) pa_nil)) (pv 1))))))), ?_⟩
    refine ⟨_, rfl, b, _, _, _, rfl, rfl, SqL.of hb, rfl, ?_⟩
    refine ⟨_, rfl, _, _, rfl, rfl, _, rfl, b, _, _, 1, rfl, rfl, hb, rfl, ?_⟩
    have hb' : upd H b (.lst [.ref l, .int (n + 1)]) b = some (.lst [.ref l, .int (n + 1)]) := upd_same
    have hl' : upd H b (.lst [.ref l, .int (n + 1)]) l = some (.lst (ds.map V.int)) := by rw [upd_ne ne.symm]; exact hl
    have B : Box (upd H b (.lst [.ref l, .int (n + 1)])) b := ⟨l, ds, n + 1, hb', hl', ne, by omega, hlen⟩
    have U : But b H (upd H b (.lst [.ref l, .int (n + 1)])) := ⟨fun a o na z => by rw [upd_ne na]; exact z, fun l' n' z => by
      rw [hb] at z
      cases z
      exact ⟨n + 1, hb'⟩⟩
    refine ⟨_, rfl, _, rfl, b, _, _, _, rfl, rfl, SqL.of hb', rfl, l, _, rfl, .inl (SqL.of hl'), _, _, rfl, rfl, _, rfl, ?_⟩
    refine ite2 (fun c => ?_) (fun c => ?_)
    · have lt := of_decide_eq_true c
      rw [List.length_map] at lt
      obtain ⟨j, rfl⟩ : ∃ j : Nat, n = (j : Int) := ⟨n.toNat, by omega⟩
      have hj : j < ds.length := by omega
      refine ⟨_, rfl, b, _, _, _, rfl, rfl, SqL.of hb', rfl, _, rfl, l, _, _, _, rfl, rfl, SqL.of hl', atI_nat (v := V.int ds[j]) (by rw [List.getElem?_map, List.getElem?_eq_getElem hj]; rfl), .inl ⟨_, rfl, _, rfl, _, _, rfl, rfl, hm, ?_⟩⟩
      exact q _ _ (Int.emod_nonneg _ (by omega)) (Int.emod_lt_of_pos _ hm) B U
    · refine ⟨_, rfl, _, _, rfl, rfl, .inr ⟨by decide, by decide⟩, _, _, rfl, rfl, .inl ⟨_, rfl, _, rfl, _, _, rfl, rfl, hm, ?_⟩⟩
      exact q _ _ (Int.emod_nonneg _ (by omega)) (Int.emod_lt_of_pos _ hm) B U
theorem scAlike : FnScope ["one", "two"] ["one", "two"] (defScope sAlike) := ⟨rfl, rfl, rfl, by decide +kernel, rfl, by decide +kernel, by decide +kernel⟩
theorem ok_alike {f : Addr} {fd : FuncData} (F : Fun K "_law_alike" "_law_alike" sAlike f fd) (M : Names mg) : FnG P w K mg base CX0 1 f fd ["one", "two"] (spAlike K) := by
  refine FnG.of_fun F scAlike (fun vs H Q E h => ?_) (fun cdv A outer s H vs Q E gf hr h => ?_)
  · obtain ⟨x, y, d, rfl, _⟩ := h
    rfl
  · obtain ⟨x, y, d, rfl, hx, hy, S, q⟩ := h
    refine ⟨_, (pss_one (ps_ret (pe_cmpR op_eq (pe_callB (call_repr gf hr.units) (by rfl) M.repr PyProof.Rows.boot_repr (pa_cons (pv 0) pa_nil)) (pe_callB (call_repr gf hr.units) (by rfl) M.repr PyProof.Rows.boot_repr (pa_cons (pv 1) pa_nil)) (nomark _)))), ?_⟩
    refine ⟨_, rfl, x, d, rfl, hx, S, _, rfl, y, d, rfl, hy, S, rfl, ?_⟩
    show Q (V.bl (decide (V.str d.shown = V.str d.shown))) _
    rw [decide_eq_true rfl]
    exact q
end
end LB

set_option maxRecDepth 100000
set_option maxHeartbeats 4000000
namespace LB
open PySem PySem.Spec PyProof.Rows L2
/-! ### tuples stay -/
structure Tp (H H' : Hp) : Prop where
  tup : ∀ a xs, H a = some (.tup xs) → H' a = some (.tup xs)
  frz : ∀ a o u, H a = some (.frz o u) → H' a = some (.frz o u)
theorem Tp.refl (H : Hp) : Tp H H := ⟨fun _ _ z => z, fun _ _ _ z => z⟩
theorem Tp.trans {H H1 H2 : Hp} (x : Tp H H1) (y : Tp H1 H2) : Tp H H2 := ⟨fun a xs z => y.tup a xs (x.tup a xs z), fun a o u z => y.frz a o u (x.frz a o u z)⟩
theorem Tp.same {H H' : Hp} (e : Same H H') : Tp H H' := ⟨fun a xs z => e _ _ z, fun a o u z => e _ _ z⟩
theorem Tp.but {b : Addr} {H H' : Hp} (B : Box H b) (e : But b H H') : Tp H H' :=
  ⟨fun a xs z => e.k a _ (fun y => B.ne.1 xs (y ▸ z)) z, fun a o u z => e.k a _ (fun y => B.ne.2 o u (y ▸ z)) z⟩
theorem Tp.lst {H : Hp} {l : Addr} {xs : List V} {o : HO} (h : H l = some (.lst xs)) : Tp H (upd H l o) :=
  ⟨fun a ys z => by rw [upd_ne (ne_of z h (by intro y; cases y))]; exact z, fun a p u z => by rw [upd_ne (ne_of z h (by intro y; cases y))]; exact z⟩
theorem Tp.seq {K : PySem.W.Frag} {H H' : Hp} {a : Addr} {xs : List V} (x : Tp H H') (h : SqT K H a xs) : SqT K H' a xs := by
  rcases h with (h | ⟨o, h⟩) | h
  · exact .inl (.inl (x.tup _ _ h))
  · exact .inl (.inr ⟨o, x.frz _ _ _ h⟩)
  · exact .inr h
/-! ### nodes as values -/
def optV : Option Int → V
  | none => .non
  | some x => .int x
def Pk.word : Pk → Str
  | .all => "all"
  | .race => "race"
  | .any => "any"
  | .sequence => "sequence"
def Kd.word : Kd → Str
  | .plain k => k.word
  | .pool _ => "pool"
  | .timeout _ => "timeout"
  | .orelse => "orelse"
  | .retry .. => "retry"
def NdAt (K : PySem.W.Frag) (H : Hp) (v : V) : Nd → Prop
  | .job d g x c f => ∃ a, v = .ref a ∧ SqT K H a [.str "job", .int d, .str (if g then "gives" else "throws"), .int x, .int c, optV f]
  | .whole (.plain w) ps => ∃ a b, v = .ref a ∧ SqT K H a [.str w.word, .ref b] ∧ SqT K H b (ps.map V.int)
  | .whole (.pool n) ps => ∃ a b, v = .ref a ∧ SqT K H a [.str "pool", .int n, .ref b] ∧ SqT K H b (ps.map V.int)
  | .whole (.timeout t) ps => ∃ a i, ps = [i] ∧ v = .ref a ∧ SqT K H a [.str "timeout", .int t, .int i]
  | .whole .orelse ps => ∃ a i j, ps = [i, j] ∧ v = .ref a ∧ SqT K H a [.str "orelse", .int i, .int j]
  | .whole (.retry r d) ps => ∃ a i, ps = [i] ∧ v = .ref a ∧ SqT K H a [.str "retry", .int r, .int d, .int i]
theorem NdAt.tp {K : PySem.W.Frag} {H H' : Hp} {v : V} {n : Nd} (x : Tp H H') (h : NdAt K H v n) : NdAt K H' v n := by
  match n, h with
  | .job .., ⟨a, e, q⟩ => exact ⟨a, e, x.seq q⟩
  | .whole (.plain w) ps, ⟨a, b, e, q, r⟩ => exact ⟨a, b, e, x.seq q, x.seq r⟩
  | .whole (.pool n) ps, ⟨a, b, e, q, r⟩ => exact ⟨a, b, e, x.seq q, x.seq r⟩
  | .whole (.timeout t) ps, ⟨a, i, e0, e, q⟩ => exact ⟨a, i, e0, e, x.seq q⟩
  | .whole .orelse ps, ⟨a, i, j, e0, e, q⟩ => exact ⟨a, i, j, e0, e, x.seq q⟩
  | .whole (.retry r d) ps, ⟨a, i, e0, e, q⟩ => exact ⟨a, i, e0, e, x.seq q⟩
/-- a row of them -/
structure NdsAt (K : PySem.W.Frag) (H : Hp) (vs : List V) (ns : List Nd) : Prop where
  len : vs.length = ns.length
  at_ : ∀ (i : Nat) (n : Nd), ns[i]? = some n → ∃ v : V, vs[i]? = some v ∧ NdAt K H v n
theorem NdsAt.nil {K : PySem.W.Frag} {H : Hp} : NdsAt K H [] [] := ⟨rfl, fun i n h => by simp at h⟩
theorem NdsAt.tp {K : PySem.W.Frag} {H H' : Hp} {vs : List V} {ns : List Nd} (x : Tp H H') (h : NdsAt K H vs ns) : NdsAt K H' vs ns := ⟨h.len, fun i n q => let ⟨v, e, r⟩ := h.at_ i n q; ⟨v, e, r.tp x⟩⟩
theorem NdsAt.more {K : PySem.W.Frag} {H : Hp} {vs : List V} {ns : List Nd} {v : V} {n : Nd} (h : NdsAt K H vs ns) (r : NdAt K H v n) : NdsAt K H (vs ++ [v]) (ns ++ [n]) := by
  have hl := h.len
  refine ⟨by simp [hl], fun i m q => ?_⟩
  by_cases c : i < ns.length
  · rw [List.getElem?_append_left c] at q
    obtain ⟨u, e, z⟩ := h.at_ i m q
    exact ⟨u, by rw [List.getElem?_append_left (by omega)]; exact e, z⟩
  · rw [List.getElem?_append_right (by omega)] at q
    have c2 : i = ns.length := by
      by_cases c3 : i - ns.length = 0
      · omega
      · rw [List.getElem?_eq_none (by simp; omega)] at q
        cases q
    subst c2
    have e : n = m := by simpa using q
    subst e
    exact ⟨v, by rw [← hl, List.getElem?_append_right (Nat.le_refl _)]; simp, r⟩
def PlanAt (K : PySem.W.Frag) (H : Hp) (v : V) (ns : List Nd) : Prop := ∃ a vs, v = .ref a ∧ SqT K H a vs ∧ NdsAt K H vs ns
theorem PlanAt.tp {K : PySem.W.Frag} {H H' : Hp} {v : V} {ns : List Nd} (x : Tp H H') (h : PlanAt K H v ns) : PlanAt K H' v ns := let ⟨a, vs, e, q, r⟩ := h; ⟨a, vs, e, x.seq q, r.tp x⟩
theorem Box.apart {H : Hp} {b l : Addr} (B : Box H b) (n : H l = none) : l ≠ b := fun z => by
  obtain ⟨_, _, _, h, _⟩ := B
  rw [z, h] at n
  cases n
theorem Box.keepL {H H' : Hp} {b l : Addr} {xs : List V} (B : Box H b) (n : H l = none) (U : But b (upd H l (.lst xs)) H') : H' l = some (.lst xs) := U.k l _ (B.apart n) upd_same
theorem Box.same {H H' : Hp} {b : Addr} (B : Box H b) (e : Same H H') : Box H' b := by
  obtain ⟨l, ds, k, h, hl, r⟩ := B
  exact ⟨l, ds, k, e _ _ h, e _ _ hl, r⟩
theorem same_new {H : Hp} {p : Addr} {o : HO} (n : H p = none) : Same H (upd H p o) := same_upd (Same.refl H) n
structure NamesP (mg : Str → Option Value) : Prop extends Names mg where
  tuple : mg "tuple" = none
  min : mg "min" = none
  max : mg "max" = none
  sum : mg "sum" = none
section
variable {P : Program} {w : World} {K : PySem.W.Frag} {mg : Str → Option Value} {base : Heap}
def spJob (K : PySem.W.Frag) : Sp := fun vs H Q _ => ∃ (b : Addr), vs = [.ref b] ∧ Box H b ∧ ∀ (v : V) (d : Int) (g : Bool) (x c : Int) (f : Option Int) (H' : Hp), JobOk d x c f → Box H' b → But b H H' → NdAt K H' v (.job d g x c f) → Q v H'
theorem scJob : FnScope ["box", "duration", "word", "cleanup", "fault"] ["box"] (defScope sJob) := ⟨rfl, rfl, rfl, by decide +kernel, rfl, by decide +kernel, by decide +kernel⟩
theorem ok_job {f fD : Addr} {fd fdD : FuncData} (F : Fun K "_law_job" "_law_job" sJob f fd) (M : Names mg) (FD : Fun K "_law_draw" "_law_draw" sDraw fD fdD) (mD : mg "_law_draw" = some (.ref fD)) (bD : Binds K fdD ["box", "many"] []) :
    FnOk P w K mg base CX0 2 f fd ["box"] (spJob K) := by
  have GD : FnOk P w K mg base CX0 1 fD fdD ["box", "many"] (spDraw K) := ok_draw FD M
  have kD := FD.kp
  refine F.ok scJob (fun vs H Q E h => ?_) (fun cdv A outer s H vs Q E hr h => ?_)
  · obtain ⟨b, rfl, _⟩ := h
    rfl
  · obtain ⟨b, rfl, B, q⟩ := h
    have nd := scJob.nd
    have three : (3 : Nat) ≤ sizeLine := by decide
    have four : (4 : Nat) ≤ sizeLine := by decide
    have six : (6 : Nat) ≤ sizeLine := by decide
    refine ⟨_, (pss_cons (ps_set (i := 1) nd rfl (Or.inl rfl) (pe_ix ix_list (pe_lst (pa_cons pe_int (pa_cons (pe_call GD (hr.mono (by decide)) rfl mD kD bD .nil pass0 (pa_cons (pv 0) (pa_cons pe_int pa_nil))) (pa_cons (pe_call GD (hr.mono (by decide)) rfl mD kD bD .nil pass0 (pa_cons (pv 0) (pa_cons pe_int pa_nil))) (pa_cons (pe_op op_add (pe_call GD (hr.mono (by decide)) rfl mD kD bD .nil pass0 (pa_cons (pv 0) (pa_cons pe_int pa_nil))) (pe_call GD (hr.mono (by decide)) rfl mD kD bD .nil pass0 (pa_cons (pv 0) (pa_cons pe_int pa_nil)))) pa_nil))))) (pe_call GD (hr.mono (by decide)) rfl mD kD bD .nil pass0 (pa_cons (pv 0) (pa_cons pe_int pa_nil))) (fun _ _ => rfl)))
        (pss_cons (ps_set (i := 2) nd rfl (Or.inl rfl) (pe_ix ix_list (pe_lst (pa_cons pe_str (pa_cons pe_str (pa_cons pe_str pa_nil)))) (pe_call GD (hr.mono (by decide)) rfl mD kD bD .nil pass0 (pa_cons (pv 0) (pa_cons pe_int pa_nil))) (fun _ _ => rfl)))
        (pss_cons (ps_set (i := 3) nd rfl (Or.inl rfl) (pe_ix ix_list (pe_lst (pa_cons pe_int (pa_cons pe_int (pa_cons (pe_call GD (hr.mono (by decide)) rfl mD kD bD .nil pass0 (pa_cons (pv 0) (pa_cons pe_int pa_nil))) (pa_cons (pe_call GD (hr.mono (by decide)) rfl mD kD bD .nil pass0 (pa_cons (pv 0) (pa_cons pe_int pa_nil))) pa_nil))))) (pe_call GD (hr.mono (by decide)) rfl mD kD bD .nil pass0 (pa_cons (pv 0) (pa_cons pe_int pa_nil))) (fun _ _ => rfl)))
        (pss_cons (ps_set (i := 4) nd rfl (Or.inl rfl) pe_non)
        (C8.pss_cut (ps_if (pt_cmpR op_eq (pe_call GD (hr.mono (by decide)) rfl mD kD bD .nil pass0 (pa_cons (pv 0) (pa_cons pe_int pa_nil))) pe_int (nomark _)) (pss_one (ps_set (i := 4) nd rfl (Or.inl rfl) (pe_call GD (hr.mono (by decide)) rfl mD kD bD .nil pass0 (pa_cons (pv 0) (pa_cons pe_int pa_nil))))) pss_nil)
        (pss_one (ps_ret (pe_tup (pa_cons pe_str (pa_cons (pv 1) (pa_cons (pv 2) (pa_cons (pe_call GD (hr.mono (by decide)) rfl mD kD bD .nil pass0 (pa_cons (pv 0) (pa_cons pe_int pa_nil))) (pa_cons (pv 3) (pa_cons (pv 4) pa_nil)))))))))))))), ?_⟩
    -- duration
    refine ⟨_, rfl, b, 4, rfl, B, by decide, fun k1 H1 k10 k11 B1 U1 => ?_⟩
    refine ⟨_, rfl, b, 12, rfl, B1, by decide, fun k2 H2 k20 k21 B2 U2 => ?_⟩
    refine ⟨_, rfl, b, 1000, rfl, B2, by decide, fun k3 H3 k30 k31 B3 U3 => ?_⟩
    refine ⟨_, rfl, b, 2, rfl, B3, by decide, fun k4 H4 k40 k41 B4 U4 => ?_⟩
    refine ⟨_, _, rfl, rfl, four, fun l nl => ?_⟩
    refine ⟨_, rfl, b, 4, rfl, B4.new nl, by decide, fun r H5 r0 r1 B5 U5 => ?_⟩
    have hl := B4.keepL nl U5
    obtain ⟨d, hd, d0, d1⟩ : ∃ d : Int, atI [V.int 0, V.int k1, V.int k2, V.int (k3 + k4)] r = some (.int d) ∧ 0 ≤ d ∧ d ≤ 1000 := by
      have c : r = 0 ∨ r = 1 ∨ r = 2 ∨ r = 3 := by omega
      rcases c with rfl | rfl | rfl | rfl
      · exact ⟨_, rfl, by omega, by omega⟩
      · exact ⟨_, rfl, by omega, by omega⟩
      · exact ⟨_, rfl, by omega, by omega⟩
      · exact ⟨_, rfl, by omega, by omega⟩
    refine ⟨l, _, _, _, rfl, rfl, SqL.of hl, hd, ?_⟩
    have U := (((U1.trans U2).trans U3).trans U4).new (o := .lst [V.int 0, V.int k1, V.int k2, V.int (k3 + k4)]) nl |>.trans U5
    clear U1 U2 U3 U4 U5 hl hd nl B4 B3 B2 B1
    -- word
    refine ⟨three, fun l nl => ?_⟩
    refine ⟨_, rfl, b, 3, rfl, B5.new nl, by decide, fun r H6 r0 r1 B6 U6 => ?_⟩
    have hl := B5.keepL nl U6
    obtain ⟨g, hg⟩ : ∃ g : Bool, atI [V.str "gives", V.str "gives", V.str "throws"] r = some (.str (if g then "gives" else "throws")) := by
      have c : r = 0 ∨ r = 1 ∨ r = 2 := by omega
      rcases c with rfl | rfl | rfl
      · exact ⟨true, rfl⟩
      · exact ⟨true, rfl⟩
      · exact ⟨false, rfl⟩
    refine ⟨l, _, _, _, rfl, rfl, SqL.of hl, hg, ?_⟩
    have U := U.new (o := .lst [V.str "gives", V.str "gives", V.str "throws"]) nl |>.trans U6
    clear U6 hl hg nl B5
    -- cleanup
    refine ⟨_, rfl, b, 5, rfl, B6, by decide, fun k1 H7 k10 k11 B7 U7 => ?_⟩
    refine ⟨_, rfl, b, 101, rfl, B7, by decide, fun k2 H8 k20 k21 B8 U8 => ?_⟩
    refine ⟨four, fun l nl => ?_⟩
    refine ⟨_, rfl, b, 4, rfl, B8.new nl, by decide, fun r H9 r0 r1 B9 U9 => ?_⟩
    have hl := B8.keepL nl U9
    obtain ⟨c, hc, c0, c1⟩ : ∃ d : Int, atI [V.int 0, V.int 0, V.int k1, V.int k2] r = some (.int d) ∧ 0 ≤ d ∧ d ≤ 100 := by
      have c : r = 0 ∨ r = 1 ∨ r = 2 ∨ r = 3 := by omega
      rcases c with rfl | rfl | rfl | rfl
      · exact ⟨_, rfl, by omega, by omega⟩
      · exact ⟨_, rfl, by omega, by omega⟩
      · exact ⟨_, rfl, by omega, by omega⟩
      · exact ⟨_, rfl, by omega, by omega⟩
    refine ⟨l, _, _, _, rfl, rfl, SqL.of hl, hc, ?_⟩
    have U := ((U.trans U7).trans U8).new (o := .lst [V.int 0, V.int 0, V.int k1, V.int k2]) nl |>.trans U9
    clear U7 U8 U9 hl hc nl B8 B7 B6
    -- fault
    refine ⟨fun σ Hc => ∃ fo : Option Int, σ = [some (.ref b), some (.int d), some (.str (if g then "gives" else "throws")), some (.int c), some (optV fo)] ∧ Box Hc b ∧ But b H Hc ∧ ∀ x, fo = some x → 0 ≤ x ∧ x ≤ 999, ?_, ?_⟩
    · refine ⟨_, rfl, b, 3, rfl, B9, by decide, fun r HA r0 r1 BA UA => ?_⟩
      refine ⟨rfl, _, rfl, ite2 (fun _ => ?_) (fun _ => ?_)⟩
      · refine ⟨_, rfl, b, 1000, rfl, BA, by decide, fun x HB x0 x1 BB UB => ?_⟩
        exact ⟨some x, rfl, BB, (U.trans UA).trans UB, fun y e => by have e := Option.some.inj e; omega⟩
      · exact ⟨none, rfl, BA, U.trans UA, fun y e => by cases e⟩
    rintro σ Hc ⟨fo, rfl, BC, UC, hf⟩
    refine ⟨_, rfl, _, rfl, _, rfl, b, 1000, rfl, BC, by decide, fun x HD x0 x1 BD UD => ?_⟩
    refine ⟨_, rfl, _, rfl, six, fun p hp => ?_⟩
    exact q _ d g x c fo _ ⟨⟨d0, d1⟩, ⟨x0, by omega⟩, ⟨c0, c1⟩, hf⟩ (BD.new hp) ((UC.trans UD).new hp) ⟨p, rfl, SqT.of upd_same⟩
end
end LB

set_option maxRecDepth 100000
set_option maxHeartbeats 4000000
namespace LB
open PySem PySem.Spec PyProof.Rows L2
/-- the words of wholes -/
def Wd (z : Str) : Prop := z = "all" ∨ z = "race" ∨ z = "any" ∨ z = "pool" ∨ z = "timeout" ∨ z = "sequence" ∨ z = "orelse" ∨ z = "retry"
structure Fits (z : Str) (n : Nat) : Prop where
  wd : Wd z
  lo : 1 ≤ n
  hi : n ≤ 6
  one : z = "timeout" ∨ z = "retry" → n = 1
  two : z = "orelse" → n = 2
section
variable {P : Program} {w : World} {K : PySem.W.Frag} {mg : Str → Option Value} {base : Heap}
def spWhole (K : PySem.W.Frag) : Sp := fun vs H Q _ => ∃ (b l : Addr) (z : Str) (ts : List Int), vs = [.ref b, .str z, .ref l] ∧ Box H b ∧ H l = some (.lst (ts.map V.int)) ∧ Fits z ts.length ∧
  ∀ (v : V) (k : Kd) (H' : Hp), KdOk k ts.length → k.word = z → 1 ≤ times k → times k ≤ 3 → (z ≠ "retry" → times k = 1) → Box H' b → But b H H' → NdAt K H' v (.whole k ts) → Q v H'
theorem ite_str {x y : Str} {A B : Prop} (h1 : x = y → A) (h2 : x ≠ y → B) : if decide (V.str x = V.str y) = true then A else B :=
  ite2 (fun c => h1 (V.str.inj (of_decide_eq_true c))) (fun c => h2 fun e => c (decide_eq_true (congrArg V.str e)))
theorem scWhole : FnScope ["box", "kind", "tops"] ["box", "kind", "tops"] (defScope sWhole) := ⟨rfl, rfl, rfl, by decide +kernel, rfl, by decide +kernel, by decide +kernel⟩
theorem ok_whole {f fD : Addr} {fd fdD : FuncData} (F : Fun K "_law_whole" "_law_whole" sWhole f fd) (M : NamesP mg) (FD : Fun K "_law_draw" "_law_draw" sDraw fD fdD) (mD : mg "_law_draw" = some (.ref fD)) (bD : Binds K fdD ["box", "many"] []) :
    FnOk P w K mg base CX0 2 f fd ["box", "kind", "tops"] (spWhole K) := by
  have GD : FnOk P w K mg base CX0 1 fD fdD ["box", "many"] (spDraw K) := ok_draw FD M.toNames
  have kD := FD.kp
  refine F.ok scWhole (fun vs H Q E h => ?_) (fun cdv A outer s H vs Q E hr h => ?_)
  · obtain ⟨b, l, z, ts, rfl, _⟩ := h
    rfl
  · obtain ⟨b, l, z, ts, rfl, B, hl, fit, q⟩ := h
    have nd := scWhole.nd
    have two : (2 : Nat) ≤ sizeLine := by decide
    have three : (3 : Nat) ≤ sizeLine := by decide
    have four : (4 : Nat) ≤ sizeLine := by decide
    have lb : l ≠ b := fun e => by
      obtain ⟨l', ds, n, h, _⟩ := B
      rw [e, h] at hl
      have e2 := Option.some.inj hl
      match ts, e2 with
      | [], e2 => cases e2
      | t :: r, e2 => cases e2
    have tl : ∀ {H' : Hp}, But b H H' → H' l = some (.lst (ts.map V.int)) := fun U => U.k l _ lb hl
    refine ⟨_, (pss_cons (ps_if (pt_cmpR op_eq (pv 1) pe_str (nomark _)) (pss_one (ps_ret (pe_tup (pa_cons pe_str (pa_cons (pe_ix ix_list (pe_lst (pa_cons (pe_call GD (hr.mono (by decide)) rfl mD kD bD .nil pass0 (pa_cons (pv 0) (pa_cons pe_int pa_nil))) (pa_cons (pe_call GD (hr.mono (by decide)) rfl mD kD bD .nil pass0 (pa_cons (pv 0) (pa_cons pe_int pa_nil))) (pa_cons (pe_op op_add (pe_call GD (hr.mono (by decide)) rfl mD kD bD .nil pass0 (pa_cons (pv 0) (pa_cons pe_int pa_nil))) (pe_call GD (hr.mono (by decide)) rfl mD kD bD .nil pass0 (pa_cons (pv 0) (pa_cons pe_int pa_nil)))) pa_nil)))) (pe_call GD (hr.mono (by decide)) rfl mD kD bD .nil pass0 (pa_cons (pv 0) (pa_cons pe_int pa_nil))) (fun _ _ => rfl)) (pa_cons (pe_ix ix_list (pv 2) (pe_un un_neg pe_int) (fun _ _ => rfl)) pa_nil)))))) pss_nil)
        (pss_cons (ps_if (pt_cmpR op_eq (pv 1) pe_str (nomark _)) (pss_one (ps_ret (pe_tup (pa_cons pe_str (pa_cons (pe_call GD (hr.mono (by decide)) rfl mD kD bD .nil pass0 (pa_cons (pv 0) (pa_cons pe_int pa_nil))) (pa_cons (pe_ix ix_list (pe_lst (pa_cons pe_int (pa_cons (pe_call GD (hr.mono (by decide)) rfl mD kD bD .nil pass0 (pa_cons (pv 0) (pa_cons pe_int pa_nil))) (pa_cons (pe_call GD (hr.mono (by decide)) rfl mD kD bD .nil pass0 (pa_cons (pv 0) (pa_cons pe_int pa_nil))) pa_nil)))) (pe_call GD (hr.mono (by decide)) rfl mD kD bD .nil pass0 (pa_cons (pv 0) (pa_cons pe_int pa_nil))) (fun _ _ => rfl)) (pa_cons (pe_ix ix_list (pv 2) (pe_un un_neg pe_int) (fun _ _ => rfl)) pa_nil))))))) pss_nil)
        (pss_cons (ps_if (pt_cmpR op_eq (pv 1) pe_str (nomark _)) (pss_one (ps_ret (pe_tup (pa_cons pe_str (pa_cons (pe_ix ix_list (pv 2) (pe_un un_neg pe_int) (fun _ _ => rfl)) (pa_cons (pe_ix ix_list (pv 2) (pe_un un_neg pe_int) (fun _ _ => rfl)) pa_nil)))))) pss_nil)
        (pss_cons (ps_if (pt_cmpR op_eq (pv 1) pe_str (nomark _)) (pss_one (ps_ret (pe_tup (pa_cons pe_str (pa_cons (pe_op op_add pe_int (pe_call GD (hr.mono (by decide)) rfl mD kD bD .nil pass0 (pa_cons (pv 0) (pa_cons pe_int pa_nil)))) (pa_cons (pe_callTy call_tuple_of (by rfl) M.tuple (by decide +kernel) (pa_cons (pv 2) pa_nil)) pa_nil)))))) pss_nil)
        (pss_one (ps_ret (pe_tup (pa_cons (pv 1) (pa_cons (pe_callTy call_tuple_of (by rfl) M.tuple (by decide +kernel) (pa_cons (pv 2) pa_nil)) pa_nil))))))))), ?_⟩
    refine ⟨_, rfl, rfl, _, rfl, ite_str (fun ez => ?_) (fun n1 => ?_)⟩
    · -- timeout
      subst ez
      have e1 := fit.one (.inl rfl)
      obtain ⟨i, rfl⟩ : ∃ i, ts = [i] := List.length_eq_one_iff.mp e1
      refine ⟨_, rfl, b, 4, rfl, B, by decide, fun k2 H2 k20 k21 B2 U2 => ?_⟩
      refine ⟨_, rfl, b, 12, rfl, B2, by decide, fun k3 H3 k30 k31 B3 U3 => ?_⟩
      refine ⟨_, rfl, b, 1000, rfl, B3, by decide, fun k4 H4 k40 k41 B4 U4 => ?_⟩
      refine ⟨_, rfl, b, 2, rfl, B4, by decide, fun k5 H5 k50 k51 B5 U5 => ?_⟩
      refine ⟨_, _, rfl, rfl, three, fun m nm => ?_⟩
      refine ⟨_, rfl, b, 3, rfl, B5.new nm, by decide, fun r H6 r0 r1 B6 U6 => ?_⟩
      have hm := B5.keepL nm U6
      obtain ⟨t, ht, t0, t1⟩ : ∃ d : Int, atI [V.int k2, V.int k3, V.int (k4 + k5)] r = some (.int d) ∧ 0 ≤ d ∧ d ≤ 1000 := by
        have c : r = 0 ∨ r = 1 ∨ r = 2 := by omega
        rcases c with rfl | rfl | rfl
        · exact ⟨_, rfl, by omega, by omega⟩
        · exact ⟨_, rfl, by omega, by omega⟩
        · exact ⟨_, rfl, by omega, by omega⟩
      refine ⟨m, _, _, _, rfl, rfl, SqL.of hm, ht, ?_⟩
      have U := (((U2.trans U3).trans U4).trans U5).new (o := .lst [V.int k2, V.int k3, V.int (k4 + k5)]) nm |>.trans U6
      refine ⟨_, rfl, _, rfl, l, _, _, _, rfl, rfl, SqL.of (tl U), rfl, three, fun p hp => ?_⟩
      exact q _ (.timeout t) _ ⟨rfl, t0, t1⟩ rfl (by show (1 : Int) ≤ 1; decide) (by show (1 : Int) ≤ 3; decide) (fun _ => rfl) (B6.new hp) (U.new hp) ⟨p, i, rfl, rfl, SqT.of upd_same⟩
    refine ⟨_, rfl, rfl, _, rfl, ite_str (fun ez => ?_) (fun n2 => ?_)⟩
    · -- retry
      subst ez
      have e1 := fit.one (.inr rfl)
      obtain ⟨i, rfl⟩ : ∃ i, ts = [i] := List.length_eq_one_iff.mp e1
      refine ⟨_, rfl, b, 3, rfl, B, by decide, fun k2 H2 k20 k21 B2 U2 => ?_⟩
      refine ⟨_, rfl, b, 4, rfl, B2, by decide, fun k3 H3 k30 k31 B3 U3 => ?_⟩
      refine ⟨_, rfl, b, 101, rfl, B3, by decide, fun k4 H4 k40 k41 B4 U4 => ?_⟩
      refine ⟨three, fun m nm => ?_⟩
      refine ⟨_, rfl, b, 3, rfl, B4.new nm, by decide, fun r H6 r0 r1 B6 U6 => ?_⟩
      have hm := B4.keepL nm U6
      obtain ⟨t, ht, t0, t1⟩ : ∃ d : Int, atI [V.int 0, V.int k3, V.int k4] r = some (.int d) ∧ 0 ≤ d ∧ d ≤ 100 := by
        have c : r = 0 ∨ r = 1 ∨ r = 2 := by omega
        rcases c with rfl | rfl | rfl
        · exact ⟨_, rfl, by omega, by omega⟩
        · exact ⟨_, rfl, by omega, by omega⟩
        · exact ⟨_, rfl, by omega, by omega⟩
      refine ⟨m, _, _, _, rfl, rfl, SqL.of hm, ht, ?_⟩
      have U := ((U2.trans U3).trans U4).new (o := .lst [V.int 0, V.int k3, V.int k4]) nm |>.trans U6
      refine ⟨_, rfl, _, rfl, l, _, _, _, rfl, rfl, SqL.of (tl U), rfl, four, fun p hp => ?_⟩
      exact q _ (.retry k2 t) _ ⟨rfl, k20, by omega, t0, t1⟩ rfl (by show (1 : Int) ≤ k2 + 1; omega) (by show k2 + 1 ≤ 3; omega) (fun n => absurd rfl n) (B6.new hp) (U.new hp) ⟨p, i, rfl, rfl, SqT.of upd_same⟩
    refine ⟨_, rfl, rfl, _, rfl, ite_str (fun ez => ?_) (fun n3 => ?_)⟩
    · -- orelse
      subst ez
      have e1 := fit.two rfl
      obtain ⟨i, j, rfl⟩ : ∃ i j, ts = [i, j] := by
        match ts, e1 with
        | [i, j], _ => exact ⟨i, j, rfl⟩
      refine ⟨_, rfl, _, rfl, l, _, _, _, rfl, rfl, SqL.of hl, rfl, _, rfl, _, rfl, l, _, _, _, rfl, rfl, SqL.of hl, rfl, three, fun p hp => ?_⟩
      exact q _ .orelse _ rfl rfl (by show (1 : Int) ≤ 1; decide) (by show (1 : Int) ≤ 3; decide) (fun _ => rfl) (B.new hp) ((But.refl b H).new hp) ⟨p, i, j, rfl, rfl, SqT.of upd_same⟩
    refine ⟨_, rfl, rfl, _, rfl, ite_str (fun ez => ?_) (fun n4 => ?_)⟩
    · -- pool
      subst ez
      refine ⟨_, rfl, b, 3, rfl, B, by decide, fun k2 H2 k20 k21 B2 U2 => ?_⟩
      refine ⟨_, _, rfl, rfl, _, rfl, l, _, rfl, .inl ⟨SqL.of (tl U2), fun p hp => ?_⟩⟩
      refine ⟨three, fun p2 hp2 => ?_⟩
      have S := same_new (o := .tup [V.str "pool", .int (1 + k2), .ref p]) hp2
      exact q _ (.pool (1 + k2)) _ ⟨fit.lo, fit.hi, by omega, by omega⟩ rfl (by show (1 : Int) ≤ 1; decide) (by show (1 : Int) ≤ 3; decide) (fun _ => rfl) ((B2.new hp).new hp2) ((U2.new hp).new hp2)
        ⟨p2, p, rfl, SqT.of upd_same, SqT.of (S _ _ upd_same)⟩
    · -- the others
      obtain ⟨pk, hpk⟩ : ∃ pk : Pk, pk.word = z := by
        rcases fit.wd with h | h | h | h | h | h | h | h
        · exact ⟨.all, h.symm⟩
        · exact ⟨.race, h.symm⟩
        · exact ⟨.any, h.symm⟩
        · exact absurd h n4
        · exact absurd h n1
        · exact ⟨.sequence, h.symm⟩
        · exact absurd h n3
        · exact absurd h n2
      subst hpk
      refine ⟨_, rfl, _, rfl, l, _, rfl, .inl ⟨SqL.of hl, fun p hp => ?_⟩⟩
      refine ⟨two, fun p2 hp2 => ?_⟩
      have S := same_new (o := .tup [V.str pk.word, .ref p]) hp2
      exact q _ (.plain pk) _ ⟨fit.lo, fit.hi⟩ rfl (by show (1 : Int) ≤ 1; decide) (by show (1 : Int) ≤ 3; decide) (fun _ => rfl) ((B.new hp).new hp2) (((But.refl b H).new hp).new hp2)
        ⟨p2, p, rfl, SqT.of upd_same, SqT.of (S _ _ upd_same)⟩
end
end LB

set_option maxRecDepth 100000
set_option maxHeartbeats 8000000
namespace LB
open PySem PySem.Spec PyProof.Rows L2
/-! ### the ends of lists -/
theorem cut_tail {xs ys : List V} {m : Int} (h : m = (ys.length : Int)) (h1 : 1 ≤ m) : cutV (xs ++ ys) (some (-m)) none = ys := by
  unfold cutV
  have e1 : HT.sIx (xs ++ ys).length 0 (some (-m)) = xs.length := by
    show (if -m < 0 then (-m + ((xs ++ ys).length : Int)).toNat else min (-m).toNat (xs ++ ys).length) = _
    rw [if_pos (by omega), List.length_append]
    omega
  have e2 : HT.sIx (xs ++ ys).length (xs ++ ys).length none = (xs ++ ys).length := rfl
  rw [e1, e2, List.drop_left, List.length_append, List.take_of_length_le (by omega)]
theorem cut_head {xs ys : List V} {m : Int} (h : m = (ys.length : Int)) (h1 : 1 ≤ m) : cutV (xs ++ ys) none (some (-m)) = xs := by
  unfold cutV
  have e1 : HT.sIx (xs ++ ys).length (xs ++ ys).length (some (-m)) = xs.length := by
    show (if -m < 0 then (-m + ((xs ++ ys).length : Int)).toNat else min (-m).toNat (xs ++ ys).length) = _
    rw [if_pos (by omega), List.length_append]
    omega
  have e2 : HT.sIx (xs ++ ys).length 0 none = 0 := rfl
  rw [e1, e2, List.drop_zero, Nat.sub_zero, List.take_left]
theorem cut_tailI {na nb : List Int} {m : Int} (h : m = (nb.length : Int)) (h1 : 1 ≤ m) : cutV ((na ++ nb).map V.int) (some (-m)) none = nb.map V.int := by
  rw [List.map_append]
  exact cut_tail (by rw [List.length_map]; exact h) h1
theorem cut_headI {na nb : List Int} {m : Int} (h : m = (nb.length : Int)) (h1 : 1 ≤ m) : cutV ((na ++ nb).map V.int) none (some (-m)) = na.map V.int := by
  rw [List.map_append]
  exact cut_head (by rw [List.length_map]; exact h) h1
/-! ### what grows: four lists, told by nodes N, tops T, depths D, runs R -/
structure Gr (K : PySem.W.Frag) (H0 H : Hp) (b l1 l2 l3 l4 : Addr) (N : List Nd) (T D R : List Int) : Prop where
  B0 : Box H0 b
  B : Box H b
  U : But b H0 H
  e1 : H0 l1 = none
  e2 : H0 l2 = none
  e3 : H0 l3 = none
  e4 : H0 l4 = none
  ne : l1 ≠ l2 ∧ l1 ≠ l3 ∧ l1 ≠ l4 ∧ l2 ≠ l3 ∧ l2 ≠ l4 ∧ l3 ≠ l4
  n1 : ∃ vs, H l1 = some (.lst vs) ∧ NdsAt K H vs N
  n2 : H l2 = some (.lst (T.map V.int))
  n3 : H l3 = some (.lst (D.map V.int))
  n4 : H l4 = some (.lst (R.map V.int))
theorem Box.off {H : Hp} {b l : Addr} (B : Box H b) (e : H l = none) : l ≠ b := B.apart e
/-- a list that is not of the box is written -/
theorem Box.put {H0 H : Hp} {b l : Addr} {o : HO} (B0 : Box H0 b) (B : Box H b) (U : But b H0 H) (e : H0 l = none) : Box (upd H l o) b ∧ But b H0 (upd H l o) := by
  have lb := B0.off e
  obtain ⟨l0, d0, n0, hb0, hl0, _⟩ := B0
  obtain ⟨l1, d1, n1, hb1, hl1, ne1, r⟩ := B
  obtain ⟨n', h'⟩ := U.d l0 n0 hb0
  have el : l1 = l0 := by
    rw [hb1] at h'
    have e2 := Option.some.inj h'
    injection e2 with e3
    injection e3 with e4
    exact V.ref.inj e4
  subst el
  have ll : l ≠ l1 := fun z => by rw [z, hl0] at e; cases e
  have U' : But b H0 (upd H l o) := ⟨fun a u na q => by
    have al : a ≠ l := fun z => by rw [z, e] at q; cases q
    rw [upd_ne al]
    exact U.k a u na q, fun l' m q => by
    obtain ⟨m', q'⟩ := U.d l' m q
    exact ⟨m', by rw [upd_ne (Ne.symm lb)]; exact q'⟩⟩
  exact ⟨⟨l1, d1, n1, by rw [upd_ne (Ne.symm lb)]; exact hb1, by rw [upd_ne (Ne.symm ll)]; exact hl1, ne1, r⟩, U'⟩
section
variable {K : PySem.W.Frag} {H0 H H' : Hp} {b l1 l2 l3 l4 p : Addr} {N : List Nd} {T D R T' : List Int} {o : HO}
theorem Gr.but (G : Gr K H0 H b l1 l2 l3 l4 N T D R) (B : Box H' b) (U : But b H H') : Gr K H0 H' b l1 l2 l3 l4 N T D R :=
  { B0 := G.B0, B := B, U := G.U.trans U, e1 := G.e1, e2 := G.e2, e3 := G.e3, e4 := G.e4, ne := G.ne,
    n1 := let ⟨vs, h, r⟩ := G.n1; ⟨vs, U.k _ _ (G.B0.off G.e1) h, r.tp (Tp.but G.B U)⟩, n2 := U.k _ _ (G.B0.off G.e2) G.n2, n3 := U.k _ _ (G.B0.off G.e3) G.n3, n4 := U.k _ _ (G.B0.off G.e4) G.n4 }
theorem Gr.new (G : Gr K H0 H b l1 l2 l3 l4 N T D R) (n : H p = none) : Gr K H0 (upd H p o) b l1 l2 l3 l4 N T D R := G.but (G.B.new n) ((But.refl b H).new n)
theorem Gr.free (G : Gr K H0 H b l1 l2 l3 l4 N T D R) (n : H p = none) : H0 p = none := by
  cases q : H0 p with
  | none => rfl
  | some u =>
    have pb : p ≠ b := G.B.off n
    rw [G.U.k p u pb q] at n
    cases n
theorem Gr.push1 (G : Gr K H0 H b l1 l2 l3 l4 N T D R) {vs : List V} (h : H l1 = some (.lst vs)) {v : V} {n : Nd} (hv : NdAt K H v n) : Gr K H0 (upd H l1 (.lst (vs ++ [v]))) b l1 l2 l3 l4 (N ++ [n]) T D R := by
  obtain ⟨vs', h', r⟩ := G.n1
  rw [h] at h'
  cases h'
  obtain ⟨B, U⟩ := Box.put (o := .lst (vs ++ [v])) G.B0 G.B G.U G.e1
  have tp := Tp.lst (o := .lst (vs ++ [v])) h
  obtain ⟨a, c, d, _⟩ := G.ne
  exact { B0 := G.B0, B := B, U := U, e1 := G.e1, e2 := G.e2, e3 := G.e3, e4 := G.e4, ne := G.ne, n1 := ⟨_, upd_same, (r.tp tp).more (hv.tp tp)⟩, n2 := (by rw [upd_ne (Ne.symm a)]; exact G.n2), n3 := (by rw [upd_ne (Ne.symm c)]; exact G.n3), n4 := (by rw [upd_ne (Ne.symm d)]; exact G.n4) }
theorem Gr.push2 (G : Gr K H0 H b l1 l2 l3 l4 N T D R) {x : Int} : Gr K H0 (upd H l2 (.lst (T.map V.int ++ [V.int x]))) b l1 l2 l3 l4 N (T ++ [x]) D R := by
  obtain ⟨vs, h, r⟩ := G.n1
  obtain ⟨B, U⟩ := Box.put (o := .lst (T.map V.int ++ [V.int x])) G.B0 G.B G.U G.e2
  have tp := Tp.lst (o := .lst (T.map V.int ++ [V.int x])) G.n2
  obtain ⟨a, _, _, c, d, _⟩ := G.ne
  exact { B0 := G.B0, B := B, U := U, e1 := G.e1, e2 := G.e2, e3 := G.e3, e4 := G.e4, ne := G.ne, n1 := ⟨vs, by rw [upd_ne a]; exact h, r.tp tp⟩, n2 := upd_same.trans (congrArg some lst_more), n3 := (by rw [upd_ne (Ne.symm c)]; exact G.n3), n4 := (by rw [upd_ne (Ne.symm d)]; exact G.n4) }
theorem Gr.push3 (G : Gr K H0 H b l1 l2 l3 l4 N T D R) {x : Int} : Gr K H0 (upd H l3 (.lst (D.map V.int ++ [V.int x]))) b l1 l2 l3 l4 N T (D ++ [x]) R := by
  obtain ⟨vs, h, r⟩ := G.n1
  obtain ⟨B, U⟩ := Box.put (o := .lst (D.map V.int ++ [V.int x])) G.B0 G.B G.U G.e3
  have tp := Tp.lst (o := .lst (D.map V.int ++ [V.int x])) G.n3
  obtain ⟨_, a, _, c, _, d⟩ := G.ne
  exact { B0 := G.B0, B := B, U := U, e1 := G.e1, e2 := G.e2, e3 := G.e3, e4 := G.e4, ne := G.ne, n1 := ⟨vs, by rw [upd_ne a]; exact h, r.tp tp⟩, n2 := (by rw [upd_ne c]; exact G.n2), n3 := upd_same.trans (congrArg some lst_more), n4 := (by rw [upd_ne (Ne.symm d)]; exact G.n4) }
theorem Gr.push4 (G : Gr K H0 H b l1 l2 l3 l4 N T D R) {x : Int} : Gr K H0 (upd H l4 (.lst (R.map V.int ++ [V.int x]))) b l1 l2 l3 l4 N T D (R ++ [x]) := by
  obtain ⟨vs, h, r⟩ := G.n1
  obtain ⟨B, U⟩ := Box.put (o := .lst (R.map V.int ++ [V.int x])) G.B0 G.B G.U G.e4
  have tp := Tp.lst (o := .lst (R.map V.int ++ [V.int x])) G.n4
  obtain ⟨_, _, a, _, c, d⟩ := G.ne
  exact { B0 := G.B0, B := B, U := U, e1 := G.e1, e2 := G.e2, e3 := G.e3, e4 := G.e4, ne := G.ne, n1 := ⟨vs, by rw [upd_ne a]; exact h, r.tp tp⟩, n2 := (by rw [upd_ne c]; exact G.n2), n3 := (by rw [upd_ne d]; exact G.n3), n4 := upd_same.trans (congrArg some lst_more) }
theorem Gr.mov2 (G : Gr K H0 H b l1 l2 l3 l4 N T D R) (n : H p = none) {xs : List V} (e : xs = T'.map V.int) : Gr K H0 (upd H p (.lst xs)) b l1 p l3 l4 N T' D R := by
  subst e
  have G' := G.new (o := .lst (T'.map V.int)) n
  obtain ⟨vs, h, _⟩ := G.n1
  exact { B0 := G'.B0, B := G'.B, U := G'.U, e1 := G.e1, e2 := G.free n, e3 := G.e3, e4 := G.e4, ne := ⟨ne_of_none h n, G.ne.2.1, G.ne.2.2.1, (ne_of_none G.n3 n).symm, (ne_of_none G.n4 n).symm, G.ne.2.2.2.2.2⟩, n1 := G'.n1, n2 := upd_same, n3 := G'.n3, n4 := G'.n4 }
theorem Gr.mov3 (G : Gr K H0 H b l1 l2 l3 l4 N T D R) (n : H p = none) {xs : List V} (e : xs = T'.map V.int) : Gr K H0 (upd H p (.lst xs)) b l1 l2 p l4 N T T' R := by
  subst e
  have G' := G.new (o := .lst (T'.map V.int)) n
  obtain ⟨vs, h, _⟩ := G.n1
  exact { B0 := G'.B0, B := G'.B, U := G'.U, e1 := G.e1, e2 := G.e2, e3 := G.free n, e4 := G.e4, ne := ⟨G.ne.1, ne_of_none h n, G.ne.2.2.1, ne_of_none G.n2 n, G.ne.2.2.2.2.1, (ne_of_none G.n4 n).symm⟩, n1 := G'.n1, n2 := G'.n2, n3 := upd_same, n4 := G'.n4 }
theorem Gr.mov4 (G : Gr K H0 H b l1 l2 l3 l4 N T D R) (n : H p = none) {xs : List V} (e : xs = T'.map V.int) : Gr K H0 (upd H p (.lst xs)) b l1 l2 l3 p N T D T' := by
  subst e
  have G' := G.new (o := .lst (T'.map V.int)) n
  obtain ⟨vs, h, _⟩ := G.n1
  exact { B0 := G'.B0, B := G'.B, U := G'.U, e1 := G.e1, e2 := G.e2, e3 := G.e3, e4 := G.free n, ne := ⟨G.ne.1, G.ne.2.1, ne_of_none h n, G.ne.2.2.2.1, ne_of_none G.n2 n, ne_of_none G.n3 n⟩, n1 := G'.n1, n2 := G'.n2, n3 := G'.n3, n4 := upd_same }
end
theorem Gr.cast {K : PySem.W.Frag} {H0 H : Hp} {b l1 l2 l3 l4 : Addr} {N N' : List Nd} {T D R T' D' R' : List Int} (G : Gr K H0 H b l1 l2 l3 l4 N T D R) (e1 : N' = N) (e2 : T' = T) (e3 : D' = D) (e4 : R' = R) : Gr K H0 H b l1 l2 l3 l4 N' T' D' R' := by
  subst e1 e2 e3 e4
  exact G
/-! ### the forest between two turns -/
def Each (F : List Pl) : Prop := ∀ p ∈ F, OkP p ∧ 1 ≤ p.depth ∧ 1 ≤ p.runs
theorem depth_pos : ∀ p : Pl, 1 ≤ p.depth
  | .job .. => by rw [Pl.depth]; decide
  | .node k ps => by
    rw [Pl.depth]
    have := maxI_nn (Pl.depthL ps)
    omega
theorem sum_app (a c : List Int) : (a ++ c).sum = a.sum + c.sum := by rw [List.sum_append]
theorem sum_nn {l : List Int} (h : ∀ x ∈ l, 1 ≤ x) : 0 ≤ l.sum := by
  induction l with
  | nil => decide
  | cons x r ih =>
    have h1 := h x (List.mem_cons_self ..)
    have h2 := ih fun y hy => h y (List.mem_cons_of_mem _ hy)
    rw [List.sum_cons]
    omega
theorem sum_pos {l : List Int} (h : ∀ x ∈ l, 1 ≤ x) (hl : l ≠ []) : 1 ≤ l.sum := by
  cases l with
  | nil => exact absurd rfl hl
  | cons x r =>
    have h1 := h x (List.mem_cons_self ..)
    have h2 := sum_nn fun y hy => h y (List.mem_cons_of_mem _ hy)
    rw [List.sum_cons]
    omega
/-- a forest of at most n trees, m nodes, r runs, of depths up to d -/
structure Fo (F : List Pl) (n m : Nat) (r d : Int) : Prop where
  ok : ∀ p ∈ F, OkP p
  dp : ∀ p ∈ F, p.depth ≤ d
  rn : ∀ p ∈ F, 1 ≤ p.runs
  len : F.length ≤ n
  size : Pl.sizeL F ≤ m
  sum : (F.map Pl.runs).sum ≤ r
theorem Fo.job {F : List Pl} {n m : Nat} {r d : Int} (f : Fo F n m r d) (h : 1 ≤ d) {dd : Int} {g : Bool} {x c : Int} {fo : Option Int} (j : JobOk dd x c fo) : Fo (F ++ [.job dd g x c fo]) (n + 1) (m + 1) (r + 1) d := by
  refine ⟨fun p hp => ?_, fun p hp => ?_, fun p hp => ?_, by simpa using f.len, ?_, ?_⟩
  · rcases List.mem_append.mp hp with q | q
    · exact f.ok p q
    · rw [List.mem_singleton.mp q]; exact .job j
  · rcases List.mem_append.mp hp with q | q
    · exact f.dp p q
    · rw [List.mem_singleton.mp q, Pl.depth]; exact h
  · rcases List.mem_append.mp hp with q | q
    · exact f.rn p q
    · rw [List.mem_singleton.mp q, Pl.runs]; decide
  · rw [sizeL_app, sizeL_one, Pl.size]
    have := f.size
    omega
  · rw [List.map_append, sum_app]
    have := f.sum
    show _ + ([(Pl.job dd g x c fo).runs] : List Int).sum ≤ _
    rw [Pl.runs]
    show _ + ([1] : List Int).sum ≤ _
    have e : ([1] : List Int).sum = 1 := by decide
    rw [e]
    omega
theorem Fo.join {A B : List Pl} {n m : Nat} {r d d' r' : Int} (f : Fo (A ++ B) n m r d) {k : Kd} (hk : KdOk k B.length) (t1 : 1 ≤ times k) (hB : B ≠ []) (hd : ∀ p ∈ B, p.depth < d') (hdd : d ≤ d') (hr : (A.map Pl.runs).sum + times k * (B.map Pl.runs).sum ≤ r') :
    Fo (A ++ [.node k B]) n (m + 1) r' d' := by
  have pos : 1 ≤ (B.map Pl.runs).sum := sum_pos (fun x hx => by
    obtain ⟨p, hp, e⟩ := List.mem_map.mp hx
    rw [← e]
    exact f.rn p (List.mem_append_right _ hp)) (by simpa using hB)
  refine ⟨fun p hp => ?_, fun p hp => ?_, fun p hp => ?_, ?_, ?_, ?_⟩
  · rcases List.mem_append.mp hp with q | q
    · exact f.ok p (List.mem_append_left _ q)
    · rw [List.mem_singleton.mp q]; exact .node hk fun p hp => f.ok p (List.mem_append_right _ hp)
  · rcases List.mem_append.mp hp with q | q
    · exact Int.le_trans (f.dp p (List.mem_append_left _ q)) hdd
    · rw [List.mem_singleton.mp q, Pl.depth, depthL_map]
      have h : maxI (B.map Pl.depth) ≤ d' - 1 := by
        refine maxI_le ?_ fun x hx => ?_
        · match B, hB, hd with
          | p :: _, _, hd =>
            have h1 := hd p (List.mem_cons_self ..)
            have h2 := depth_pos p
            omega
        · obtain ⟨p, hp, e⟩ := List.mem_map.mp hx
          have := hd p hp
          omega
      omega
  · rcases List.mem_append.mp hp with q | q
    · exact f.rn p (List.mem_append_left _ q)
    · rw [List.mem_singleton.mp q, Pl.runs, runsL_map]
      have h := Int.mul_le_mul t1 pos (by decide) (by omega)
      simpa using h
  · have := f.len
    have h := List.length_pos_iff.mpr hB
    simp only [List.length_append, List.length_singleton] at this ⊢
    omega
  · have := f.size
    rw [sizeL_app] at this
    rw [sizeL_app, sizeL_one, Pl.size]
    omega
  · rw [List.map_append, sum_app]
    show _ + ([(Pl.node k B).runs] : List Int).sum ≤ _
    rw [Pl.runs, runsL_map, List.sum_cons, List.sum_nil]
    omega
theorem split_last {F : List Pl} {m : Nat} (h : m ≤ F.length) : ∃ A B, F = A ++ B ∧ B.length = m := ⟨F.take (F.length - m), F.drop (F.length - m), (List.take_append_drop ..).symm, by rw [List.length_drop]; omega⟩
end LB

set_option maxRecDepth 100000
set_option maxHeartbeats 8000000
namespace LB
open PySem PySem.Spec PyProof.Rows L2
/-- bounds of the last three turns -/
def dB (t : Nat) : Int := if t = 0 then 6 else if t = 1 then 7 else 8
def nB (t : Nat) : Nat := if t = 0 then 10 else if t = 1 then 5 else 1
theorem dB_lt {t : Nat} (h : t ≤ 1) : dB t < dB (t + 1) := by
  match t, h with
  | 0, _ => decide
  | 1, _ => decide
theorem dB_le (t : Nat) : dB t ≤ dB (t + 1) := by
  match t with
  | 0 => decide
  | 1 => decide
  | t + 2 => exact Int.le_refl 8
theorem nB_le (t : Nat) : nB t ≤ 10 := by
  match t with
  | 0 => decide
  | 1 => decide
  | t + 2 => exact (by decide : 1 ≤ 10)
theorem nB_one {t : Nat} (h : 1 < nB t) : t ≤ 1 := by
  match t, h with
  | 0, _ => decide
  | 1, _ => decide
  | t + 2, h => exact absurd (show 1 < 1 from h) (by decide)
theorem nB_pos (t : Nat) : 1 ≤ nB t := by
  match t with
  | 0 => decide
  | 1 => decide
  | t + 2 => exact (by decide : 1 ≤ 1)
theorem nB_next {t a c : Nat} (ht : t ≤ 1) (h : a + c ≤ nB t) (hm : c = a + c ∨ c = 6) : a + 1 ≤ nB (t + 1) := by
  match t, ht with
  | 0, _ =>
    have h : a + c ≤ 10 := h
    show a + 1 ≤ 5
    omega
  | 1, _ =>
    have h : a + c ≤ 5 := h
    show a + 1 ≤ 1
    omega
section
variable {P : Program} {w : World} {K : PySem.W.Frag} {mg : Str → Option Value} {base : Heap}
/-- a whole plan of at most 10 jobs, within all bounds -/
structure Whole (p : Pl) : Prop where
  ok : OkP p
  deep : p.depth ≤ 8
  runs : p.runs ≤ 60
  size : p.size ≤ 40
def spPlan (K : PySem.W.Frag) : Sp := fun vs H Q _ => ∃ (b : Addr) (j : Int), vs = [.ref b, .int j] ∧ Box H b ∧ 1 ≤ j ∧ j ≤ 10 ∧ ∀ (v : V) (p : Pl) (H' : Hp), Whole p → Box H' b → But b H H' → PlanAt K H' v (p.flat 0) → Q v H'
theorem scPlan : FnScope ["box", "jobs", "nodes", "tops", "deep", "runs", "turn", "step", "kind", "many", "times"] ["box", "jobs"] (defScope sPlan) := ⟨rfl, rfl, rfl, by decide +kernel, rfl, by decide +kernel, by decide +kernel⟩
theorem ok_plan {f fD fJ fW : Addr} {fd fdD fdJ fdW : FuncData} (F : Fun K "_law_plan" "_law_plan" sPlan f fd) (M : NamesP mg) (FD : Fun K "_law_draw" "_law_draw" sDraw fD fdD) (mD : mg "_law_draw" = some (.ref fD)) (bD : Binds K fdD ["box", "many"] [])
    (FJ : Fun K "_law_job" "_law_job" sJob fJ fdJ) (mJ : mg "_law_job" = some (.ref fJ)) (bJ : Binds K fdJ ["box"] []) (FW : Fun K "_law_whole" "_law_whole" sWhole fW fdW) (mW : mg "_law_whole" = some (.ref fW)) (bW : Binds K fdW ["box", "kind", "tops"] []) :
    FnOk P w K mg base CX0 3 f fd ["box", "jobs"] (spPlan K) := by
  have GD : FnOk P w K mg base CX0 1 fD fdD ["box", "many"] (spDraw K) := ok_draw FD M.toNames
  have GJ : FnOk P w K mg base CX0 2 fJ fdJ ["box"] (spJob K) := ok_job FJ M.toNames FD mD bD
  have GW : FnOk P w K mg base CX0 2 fW fdW ["box", "kind", "tops"] (spWhole K) := ok_whole FW M FD mD bD
  have kD := FD.kp
  have kJ := FJ.kp
  have kW := FW.kp
  refine F.ok scPlan (fun vs H Q E h => ?_) (fun cdv A outer s H vs Q E hr h => ?_)
  · obtain ⟨b, j, rfl, _⟩ := h
    rfl
  · obtain ⟨b, j, rfl, B0, j1, j10, q⟩ := h
    have nd := scPlan.nd
    have zero : (0 : Nat) ≤ sizeLine := by decide
    have one : (1 : Nat) ≤ sizeLine := by decide
    have two : (2 : Nat) ≤ sizeLine := by decide
    have five : (5 : Nat) ≤ sizeLine := by decide
    have eight : (8 : Nat) ≤ sizeLine := by decide
    refine ⟨_, (pss_cons (ps_set (i := 2) nd rfl (Or.inl rfl) (pe_lst pa_nil))
        (pss_cons (ps_set (i := 3) nd rfl (Or.inl rfl) (pe_lst pa_nil))
        (pss_cons (ps_set (i := 4) nd rfl (Or.inl rfl) (pe_lst pa_nil))
        (pss_cons (ps_set (i := 5) nd rfl (Or.inl rfl) (pe_lst pa_nil))
        (pss_cons (ps_for PassesOwn.never rfl (pi_range1 (by rfl) M.range (pa_cons (pe_op op_add pe_int (pe_call GD (hr.mono (by decide)) rfl mD kD bD .nil pass0 (pa_cons (pv 0) (pa_cons (pv 1) pa_nil)))) pa_nil)) (pg_name (i := 6) nd rfl (Or.inl rfl)) (pss_cons (ps_expr (pe_bm PySem.F.plainAttrs_list PySem.F.slot_list_append PySem.F.type_list_append mt_append (pv 2) (pa_cons (pe_call GJ (hr.mono (by decide)) rfl mJ kJ bJ .nil pass0 (pa_cons (pv 0) pa_nil)) pa_nil)))
        (pss_cons (ps_expr (pe_bm PySem.F.plainAttrs_list PySem.F.slot_list_append PySem.F.type_list_append mt_append (pv 3) (pa_cons (pe_op op_sub (pe_callB call_len_seq (by rfl) M.len PySem.boot_len (pa_cons (pv 2) pa_nil)) pe_int) pa_nil)))
        (pss_cons (ps_expr (pe_bm PySem.F.plainAttrs_list PySem.F.slot_list_append PySem.F.type_list_append mt_append (pv 4) (pa_cons pe_int pa_nil)))
        (pss_cons (ps_expr (pe_bm PySem.F.plainAttrs_list PySem.F.slot_list_append PySem.F.type_list_append mt_append (pv 5) (pa_cons pe_int pa_nil)))
        (pss_one (ps_for PassesOwn.never rfl (pi_range1 (by rfl) M.range (pa_cons (pe_call GD (hr.mono (by decide)) rfl mD kD bD .nil pass0 (pa_cons (pv 0) (pa_cons pe_int pa_nil))) pa_nil)) (pg_name (i := 7) nd rfl (Or.inl rfl)) (pss_cons (ps_set (i := 8) nd rfl (Or.inl rfl) (pe_ix ix_list (pe_lst (pa_cons pe_str (pa_cons pe_str (pa_cons pe_str (pa_cons pe_str (pa_cons pe_str (pa_cons pe_str (pa_cons pe_str (pa_cons pe_str pa_nil))))))))) (pe_call GD (hr.mono (by decide)) rfl mD kD bD .nil pass0 (pa_cons (pv 0) (pa_cons pe_int pa_nil))) (fun _ _ => rfl)))
        (pss_cons (ps_set (i := 9) nd rfl (Or.inl rfl) pe_int)
        (C8.pss_cut (ps_if (pt_cmpR op_eq (pv 8) pe_str (nomark _)) (pss_one (ps_set (i := 9) nd rfl (Or.inl rfl) pe_int)) (pss_one (ps_if (pt_cmpR op_notIn_seq (pv 8) (pe_tup (pa_cons pe_str (pa_cons pe_str pa_nil))) rfl) (pss_one (ps_set (i := 9) nd rfl (Or.inl rfl) (pe_op op_add pe_int (pe_call GD (hr.mono (by decide)) rfl mD kD bD .nil pass0 (pa_cons (pv 0) (pa_cons (pe_callB (call_min2 rfl) (by rfl) M.min (by decide +kernel) (pa_cons pe_int (pa_cons (pe_callB call_len_seq (by rfl) M.len PySem.boot_len (pa_cons (pv 3) pa_nil)) pa_nil))) pa_nil)))))) pss_nil)))
        (pss_one (ps_if (PW.pt (pw_and (pt_cmpR op_le (pv 9) (pe_callB call_len_seq (by rfl) M.len PySem.boot_len (pa_cons (pv 3) pa_nil)) (nomark _)) (pw_and (pt_cmpR op_lt (pe_callB (cr_max rfl) (by rfl) M.max (by decide +kernel) (pa_cons (pe_slice sl_list (pv 4) (po_some (pe_un un_neg (pv 9))) po_none) pa_nil)) pe_int (nomark _)) (pw_and1 (pt_cmpR op_le (pe_op op_add (pe_callB (cr_sum rfl) (by rfl) M.sum (by decide +kernel) (pa_cons (pv 5) pa_nil)) (pe_op op_mul pe_int (pe_callB (cr_sum rfl) (by rfl) M.sum (by decide +kernel) (pa_cons (pe_slice sl_list (pv 5) (po_some (pe_un un_neg (pv 9))) po_none) pa_nil)))) pe_int (nomark _)))))) (pss_cons (ps_expr (pe_bm PySem.F.plainAttrs_list PySem.F.slot_list_append PySem.F.type_list_append mt_append (pv 2) (pa_cons (pe_call GW (hr.mono (by decide)) rfl mW kW bW .nil pass0 (pa_cons (pv 0) (pa_cons (pv 8) (pa_cons (pe_slice sl_list (pv 3) (po_some (pe_un un_neg (pv 9))) po_none) pa_nil)))) pa_nil)))
        (pss_cons (ps_set (i := 10) nd rfl (Or.inl rfl) pe_int)
        (C8.pss_cut (ps_if (pt_cmpR op_eq (pv 8) pe_str (nomark _)) (pss_one (ps_set (i := 10) nd rfl (Or.inl rfl) (pe_op op_add pe_int (pe_ix ix_tup (pe_ix ix_list (pv 2) (pe_un un_neg pe_int) (fun _ _ => rfl)) pe_int (fun _ _ => rfl))))) pss_nil)
        (pss_cons (ps_set (i := 3) nd rfl (Or.inl rfl) (pe_op op_cat (pe_slice sl_list (pv 3) po_none (po_some (pe_un un_neg (pv 9)))) (pe_lst (pa_cons (pe_op op_sub (pe_callB call_len_seq (by rfl) M.len PySem.boot_len (pa_cons (pv 2) pa_nil)) pe_int) pa_nil))))
        (pss_cons (ps_set (i := 4) nd rfl (Or.inl rfl) (pe_op op_cat (pe_slice sl_list (pv 4) po_none (po_some (pe_un un_neg (pv 9)))) (pe_lst (pa_cons (pe_op op_add pe_int (pe_callB (cr_max rfl) (by rfl) M.max (by decide +kernel) (pa_cons (pe_slice sl_list (pv 4) (po_some (pe_un un_neg (pv 9))) po_none) pa_nil))) pa_nil))))
        (pss_one (ps_set (i := 5) nd rfl (Or.inl rfl) (pe_op op_cat (pe_slice sl_list (pv 5) po_none (po_some (pe_un un_neg (pv 9)))) (pe_lst (pa_cons (pe_op op_mul (pv 10) (pe_callB (cr_sum rfl) (by rfl) M.sum (by decide +kernel) (pa_cons (pe_slice sl_list (pv 5) (po_some (pe_un un_neg (pv 9))) po_none) pa_nil))) pa_nil)))))))))) pss_nil))))))))))))
        (pss_cons (ps_for PassesOwn.never rfl (pi_range1 (by rfl) M.range (pa_cons pe_int pa_nil)) (pg_name (i := 6) nd rfl (Or.inl rfl)) (pss_one (ps_if (pt_cmpR op_gt (pe_callB call_len_seq (by rfl) M.len PySem.boot_len (pa_cons (pv 3) pa_nil)) pe_int (nomark _)) (pss_cons (ps_set (i := 9) nd rfl (Or.inl rfl) (pe_callB (call_min2 rfl) (by rfl) M.min (by decide +kernel) (pa_cons pe_int (pa_cons (pe_callB call_len_seq (by rfl) M.len PySem.boot_len (pa_cons (pv 3) pa_nil)) pa_nil))))
        (pss_cons (ps_expr (pe_bm PySem.F.plainAttrs_list PySem.F.slot_list_append PySem.F.type_list_append mt_append (pv 2) (pa_cons (pe_call GW (hr.mono (by decide)) rfl mW kW bW .nil pass0 (pa_cons (pv 0) (pa_cons (pe_ix ix_list (pe_lst (pa_cons pe_str (pa_cons pe_str (pa_cons pe_str (pa_cons pe_str (pa_cons pe_str pa_nil)))))) (pe_call GD (hr.mono (by decide)) rfl mD kD bD .nil pass0 (pa_cons (pv 0) (pa_cons pe_int pa_nil))) (fun _ _ => rfl)) (pa_cons (pe_slice sl_list (pv 3) (po_some (pe_un un_neg (pv 9))) po_none) pa_nil)))) pa_nil)))
        (pss_one (ps_set (i := 3) nd rfl (Or.inl rfl) (pe_op op_cat (pe_slice sl_list (pv 3) po_none (po_some (pe_un un_neg (pv 9)))) (pe_lst (pa_cons (pe_op op_sub (pe_callB call_len_seq (by rfl) M.len PySem.boot_len (pa_cons (pv 2) pa_nil)) pe_int) pa_nil))))))) pss_nil)))
        (pss_one (ps_ret (pe_callTy call_tuple_of (by rfl) M.tuple (by decide +kernel) (pa_cons (pv 2) pa_nil)))))))))), ?_⟩
    refine ⟨zero, fun l1 n1 => ⟨zero, fun l2 n2 => ⟨zero, fun l3 n3 => ⟨zero, fun l4 n4 => ?_⟩⟩⟩⟩
    have s1 := same_new (o := .lst []) n1
    have s2 := same_new (o := .lst []) n2
    have s3 := same_new (o := .lst []) n3
    have s4 := same_new (o := .lst []) n4
    have d12 : l1 ≠ l2 := ne_of_none upd_same n2
    have d13 : l1 ≠ l3 := ne_of_none (s2 _ _ upd_same) n3
    have d23 : l2 ≠ l3 := ne_of_none upd_same n3
    have d14 : l1 ≠ l4 := ne_of_none (s3 _ _ (s2 _ _ upd_same)) n4
    have d24 : l2 ≠ l4 := ne_of_none (s3 _ _ upd_same) n4
    have d34 : l3 ≠ l4 := ne_of_none upd_same n4
    have G0 : Gr K H (upd (upd (upd (upd H l1 (.lst [])) l2 (.lst [])) l3 (.lst [])) l4 (.lst [])) b l1 l2 l3 l4 [] [] [] [] :=
      { B0 := B0, B := (((B0.new n1).new n2).new n3).new n4, U := ((((But.refl b H).new n1).new n2).new n3).new n4, e1 := n1, e2 := s1.free n2, e3 := s1.free (s2.free n3), e4 := s1.free (s2.free (s3.free n4)), ne := ⟨d12, d13, d14, d23, d24, d34⟩, n1 := ⟨[], s4 _ _ (s3 _ _ (s2 _ _ upd_same)), .nil⟩, n2 := s4 _ _ (s3 _ _ upd_same), n3 := s4 _ _ upd_same, n4 := upd_same }
    clear s1 s2 s3 s4 d12 d13 d23 d14 d24 d34 n1 n2 n3 n4
    -- the first turns
    refine ⟨_, rfl, _, rfl, b, j, rfl, G0.B, by omega, fun r H1 r0 r1 B1 U1 => ?_⟩
    have G1 := G0.but B1 U1
    refine ⟨_, _, rfl, rfl, _, rfl, by omega, by omega, ?_⟩
    refine for_range (n := (1 + r).toNat) (fun i σ H' => ∃ (l2 l3 l4 : Addr) (F : List Pl) (v6 v7 v8 v9 v10 : Option V), σ = [some (.ref b), some (.int j), some (.ref l1), some (.ref l2), some (.ref l3), some (.ref l4), v6, v7, v8, v9, v10] ∧
      Gr K H H' b l1 l2 l3 l4 (Pl.flatL 0 F) (roots 0 F) (F.map Pl.depth) (F.map Pl.runs) ∧ Fo F i (3 * i) (50 + i) 6 ∧ (1 ≤ i → F ≠ []))
      ⟨l2, l3, l4, [], none, none, none, none, none, rfl, G1, ⟨by simp, by simp, by simp, by simp, by simp [Pl.sizeL], by simp⟩, by simp⟩ ?_ ?_
    · rintro i σ H2 hi ⟨l2, l3, l4, F, v6, v7, v8, v9, v10, rfl, G, fo, _⟩
      have i10 : i < 10 := by omega
      have fl := fo.len
      have fs := fo.size
      -- a job more
      obtain ⟨vs0, h0, _⟩ := G.n1
      refine ⟨_, rfl, .inl ⟨rfl, _, SqL.of h0⟩, _, rfl, b, rfl, G.B, fun v d g x c fo' H3 jok B3 U3 nv => ?_⟩
      have G := G.but B3 U3
      obtain ⟨vs, h1, nv1⟩ := G.n1
      have vl : vs.length = Pl.sizeL F := nv1.len.trans (flatL_length 0 F)
      refine ⟨l1, vs, v, rfl, rfl, h1, small_line (by omega), ?_⟩
      have G := G.push1 h1 nv
      -- its place
      obtain ⟨vs', h1', nv1'⟩ := G.n1
      have vl' : vs'.length = Pl.sizeL F + 1 := by rw [nv1'.len, List.length_append, flatL_length]; rfl
      refine ⟨_, rfl, .inl ⟨rfl, _, SqL.of G.n2⟩, _, rfl, l1, _, rfl, .inl (SqL.of h1'), _, _, rfl, rfl, l2, _, _, rfl, rfl, G.n2, (by rw [List.length_map, roots_length]; exact small_line (by omega)), ?_⟩
      have G := G.push2 (x := ((vs'.length : Nat) : Int) - 1)
      -- its depth and runs
      refine ⟨_, rfl, .inl ⟨rfl, _, SqL.of G.n3⟩, l3, _, _, rfl, rfl, G.n3, (by rw [List.length_map, List.length_map]; exact small_line (by omega)), ?_⟩
      have G := G.push3 (x := 1)
      refine ⟨_, rfl, .inl ⟨rfl, _, SqL.of G.n4⟩, l4, _, _, rfl, rfl, G.n4, (by rw [List.length_map, List.length_map]; exact small_line (by omega)), ?_⟩
      have G := G.push4 (x := 1)
      have fo := fo.job (by decide) (g := g) jok
      have e1 : Pl.flatL 0 (F ++ [.job d g x c fo']) = Pl.flatL 0 F ++ [Nd.job d g x c fo'] := by rw [flatL_app, flatL_one, Pl.flat]
      have e2 : roots 0 (F ++ [Pl.job d g x c fo']) = roots 0 F ++ [((vs'.length : Nat) : Int) - 1] := by
        rw [roots_app]
        show roots 0 F ++ [((0 + Pl.sizeL F + (Pl.job d g x c fo').size - 1 : Nat) : Int)] = _
        rw [Pl.size, vl', show 0 + Pl.sizeL F + 1 - 1 = Pl.sizeL F by omega]
        exact congrArg (fun z => roots 0 F ++ [z]) (by omega)
      have e3 : (F ++ [Pl.job d g x c fo']).map Pl.depth = F.map Pl.depth ++ [1] := by
        rw [List.map_append]
        show F.map Pl.depth ++ [(Pl.job d g x c fo').depth] = _
        rw [Pl.depth]
      have e4 : (F ++ [Pl.job d g x c fo']).map Pl.runs = F.map Pl.runs ++ [1] := by
        rw [List.map_append]
        show F.map Pl.runs ++ [(Pl.job d g x c fo').runs] = _
        rw [Pl.runs]
      have G := G.cast e1 e2 e3 e4
      have ne : F ++ [.job d g x c fo'] ≠ [] := by simp
      generalize F ++ [.job d g x c fo'] = F at G fo ne
      clear vl vl' nv1' h1' nv1 h1 h0 nv jok fl fs
      -- joined so often
      refine ⟨_, rfl, b, 3, rfl, G.B, by decide, fun r2 H4 r20 r21 B4 U4 => ?_⟩
      have G := G.but B4 U4
      refine ⟨_, rfl, by omega, by omega, ?_⟩
      refine for_range (n := r2.toNat) (fun k σ H' => ∃ (l2 l3 l4 : Addr) (F : List Pl) (v7 v8 v9 v10 : Option V), σ = [some (.ref b), some (.int j), some (.ref l1), some (.ref l2), some (.ref l3), some (.ref l4), some (.int (0 + i)), v7, v8, v9, v10] ∧
        Gr K H H' b l1 l2 l3 l4 (Pl.flatL 0 F) (roots 0 F) (F.map Pl.depth) (F.map Pl.runs) ∧ Fo F (i + 1) (3 * i + 1 + k) (50 + i + 1) 6 ∧ F ≠ [])
        ⟨l2, l3, l4, F, _, _, _, _, rfl, G, fo, ne⟩ ?_ ?_
      · rintro k σ H5 hk ⟨l2, l3, l4, F, v7, v8, v9, v10, rfl, G, fo, ne⟩
        have fl := fo.len
        have fs := fo.size
        -- kind
        refine ⟨eight, fun l nl => ?_⟩
        have B5 := G.B
        have G := G.new (o := .lst [V.str "all", .str "race", .str "any", .str "pool", .str "timeout", .str "sequence", .str "orelse", .str "retry"]) nl
        refine ⟨_, rfl, b, 8, rfl, G.B, by decide, fun r3 H6 r30 r38 B6 U6 => ?_⟩
        have hl := B5.keepL nl U6
        have G := G.but B6 U6
        obtain ⟨z, hz, wz⟩ : ∃ z : Str, atI [V.str "all", .str "race", .str "any", .str "pool", .str "timeout", .str "sequence", .str "orelse", .str "retry"] r3 = some (.str z) ∧ Wd z := by
          have c : r3 = 0 ∨ r3 = 1 ∨ r3 = 2 ∨ r3 = 3 ∨ r3 = 4 ∨ r3 = 5 ∨ r3 = 6 ∨ r3 = 7 := by omega
          rcases c with rfl | rfl | rfl | rfl | rfl | rfl | rfl | rfl
          · exact ⟨_, rfl, .inl rfl⟩
          · exact ⟨_, rfl, .inr (.inl rfl)⟩
          · exact ⟨_, rfl, .inr (.inr (.inl rfl))⟩
          · exact ⟨_, rfl, .inr (.inr (.inr (.inl rfl)))⟩
          · exact ⟨_, rfl, .inr (.inr (.inr (.inr (.inl rfl))))⟩
          · exact ⟨_, rfl, .inr (.inr (.inr (.inr (.inr (.inl rfl)))))⟩
          · exact ⟨_, rfl, .inr (.inr (.inr (.inr (.inr (.inr (.inl rfl))))))⟩
          · exact ⟨_, rfl, .inr (.inr (.inr (.inr (.inr (.inr (.inr rfl))))))⟩
        refine ⟨l, _, _, _, rfl, rfl, SqL.of hl, hz, ?_⟩
        clear hl nl B5 U6 B6 hz
        -- many
        refine ⟨fun σ H' => ∃ m : Int, σ = [some (.ref b), some (.int j), some (.ref l1), some (.ref l2), some (.ref l3), some (.ref l4), some (.int (0 + i)), some (.int (0 + k)), some (.str z), some (.int m), v10] ∧
          Gr K H H' b l1 l2 l3 l4 (Pl.flatL 0 F) (roots 0 F) (F.map Pl.depth) (F.map Pl.runs) ∧ 1 ≤ m ∧ m ≤ 6 ∧ (z = "timeout" ∨ z = "retry" → m = 1) ∧ (z = "orelse" → m = 2), ?_, ?_⟩
        · refine ⟨_, rfl, rfl, _, rfl, ite_str (fun e => ?_) (fun n1 => ?_)⟩
          · refine ⟨2, rfl, G, by decide, by decide, fun h => ?_, fun _ => rfl⟩
            subst e
            exact absurd h (by decide)
          · refine ⟨_, rfl, two, fun t nt => ⟨t, _, rfl, .inr (SqT.of upd_same), rfl, rfl, _, rfl, ite2 (fun c => ?_) (fun c => ?_)⟩⟩
            · have G := G.new (o := .tup [V.str "timeout", .str "retry"]) nt
              refine ⟨_, rfl, _, rfl, l2, _, rfl, .inl (SqL.of G.n2), _, _, rfl, b, _, rfl, G.B, ?_, fun r4 H7 r40 r41 B7 U7 => ?_⟩
              · split <;> (try (rw [List.length_map, roots_length])) <;> first | omega | (have := List.length_pos_iff.mpr ne; omega)
              · refine ⟨_, _, rfl, rfl, 1 + r4, rfl, G.but B7 U7, by omega, ?_, fun h => ?_, fun h => absurd h n1⟩
                · split at r41 <;> omega
                · rcases h with h | h
                  · subst h
                    exact absurd c (by decide)
                  · subst h
                    exact absurd c (by decide)
            · have G := G.new (o := .tup [V.str "timeout", .str "retry"]) nt
              exact ⟨1, rfl, G, by decide, by decide, fun _ => rfl, fun h => absurd h n1⟩
        rintro σ H7 ⟨m, rfl, G, m1, m6, mo, mt⟩
        -- nothing is joined
        have stay : ∀ {H' : Hp} {v10' : Option V}, Gr K H H' b l1 l2 l3 l4 (Pl.flatL 0 F) (roots 0 F) (F.map Pl.depth) (F.map Pl.runs) → ∃ (l2' l3' l4' : Addr) (F' : List Pl) (v7' v8' v9' v10'' : Option V),
            [some (V.ref b), some (V.int j), some (V.ref l1), some (V.ref l2), some (V.ref l3), some (V.ref l4), some (V.int (0 + i)), some (V.int (0 + k)), some (V.str z), some (V.int m), v10'] = [some (.ref b), some (.int j), some (.ref l1), some (.ref l2'), some (.ref l3'), some (.ref l4'), some (.int (0 + i)), v7', v8', v9', v10''] ∧
              Gr K H H' b l1 l2' l3' l4' (Pl.flatL 0 F') (roots 0 F') (F'.map Pl.depth) (F'.map Pl.runs) ∧ Fo F' (i + 1) (3 * i + 1 + (k + 1)) (50 + i + 1) 6 ∧ F' ≠ [] := fun {H' v10'} G' =>
          ⟨l2, l3, l4, F, _, _, _, _, rfl, G', ⟨fo.ok, fo.dp, fo.rn, fo.len, Nat.le_trans fo.size (by omega), fo.sum⟩, ne⟩
        refine ⟨_, rfl, _, rfl, l2, _, rfl, .inl (SqL.of G.n2), _, _, rfl, rfl, _, rfl, ite2 (fun c1 => ?_) (fun _ => iteF (stay G))⟩
        have c1 := of_decide_eq_true c1
        rw [List.length_map, roots_length] at c1
        obtain ⟨A, B, eF, lB⟩ := split_last (F := F) (m := m.toNat) (by omega)
        have mB : m = (B.length : Int) := by omega
        have neB : B ≠ [] := fun e => by rw [e] at lB; simp at lB; omega
        have dD : cutV ((F.map Pl.depth).map V.int) (some (-m)) none = (B.map Pl.depth).map V.int := by
          rw [eF, List.map_append]
          exact cut_tailI (by rw [List.length_map]; exact mB) m1
        have dR : cutV ((F.map Pl.runs).map V.int) (some (-m)) none = (B.map Pl.runs).map V.int := by
          rw [eF, List.map_append]
          exact cut_tailI (by rw [List.length_map]; exact mB) m1
        have dT : cutV ((roots 0 F).map V.int) (some (-m)) none = (roots (Pl.sizeL A) B).map V.int := by
          rw [eF, roots_app, Nat.zero_add]
          exact cut_tailI (by rw [roots_length]; exact mB) m1
        have hD : cutV ((F.map Pl.depth).map V.int) none (some (-m)) = (A.map Pl.depth).map V.int := by
          rw [eF, List.map_append]
          exact cut_headI (by rw [List.length_map]; exact mB) m1
        have hR : cutV ((F.map Pl.runs).map V.int) none (some (-m)) = (A.map Pl.runs).map V.int := by
          rw [eF, List.map_append]
          exact cut_headI (by rw [List.length_map]; exact mB) m1
        have hT : cutV ((roots 0 F).map V.int) none (some (-m)) = (roots 0 A).map V.int := by
          rw [eF, roots_app, Nat.zero_add]
          exact cut_headI (by rw [roots_length]; exact mB) m1
        have lB0 : 0 < (B.map Pl.depth).length := by rw [List.length_map]; exact List.length_pos_iff.mpr neB
        -- not too deep
        refine ⟨_, rfl, _, rfl, _, rfl, _, rfl, l3, _, rfl, SqL.of G.n3, fun p np => ?_⟩
        rw [dD]
        refine ⟨p, B.map Pl.depth, rfl, SqL.of upd_same, lB0, fun mx _ hx => ?_⟩
        have G := G.new (o := .lst ((B.map Pl.depth).map V.int)) np
        refine ⟨_, _, rfl, rfl, _, rfl, ite2 (fun c2 => ?_) (fun _ => iteF (stay G))⟩
        have c2 := of_decide_eq_true c2
        have dB : ∀ p ∈ B, p.depth < 6 := fun p hp => Int.lt_of_le_of_lt (hx _ (List.mem_map_of_mem hp)) c2
        -- not too many runs
        refine ⟨_, rfl, l4, F.map Pl.runs, rfl, SqL.of G.n4, ?_⟩
        refine ⟨_, rfl, _, rfl, _, rfl, _, rfl, l4, _, rfl, SqL.of G.n4, fun p2 np2 => ?_⟩
        rw [dR]
        refine ⟨p2, B.map Pl.runs, rfl, SqL.of upd_same, _, _, rfl, rfl, .inl ⟨by decide, by decide⟩, _, _, rfl, rfl, _, _, rfl, rfl, _, rfl, ?_⟩
        have G := G.new (o := .lst ((B.map Pl.runs).map V.int)) np2
        refine ite2 (fun c3 => ?_) (fun _ => stay G)
        have c3 := of_decide_eq_true c3
        have sumF : (F.map Pl.runs).sum = (A.map Pl.runs).sum + (B.map Pl.runs).sum := by rw [eF, List.map_append, sum_app]
        have sB : 0 ≤ (B.map Pl.runs).sum := sum_nn fun x hx => by
          obtain ⟨p, hp, e⟩ := List.mem_map.mp hx
          rw [← e]
          exact fo.rn p (by rw [eF]; exact List.mem_append_right _ hp)
        -- the whole of them
        obtain ⟨vs0, h0, _⟩ := G.n1
        refine ⟨_, rfl, .inl ⟨rfl, _, SqL.of h0⟩, _, rfl, _, rfl, _, rfl, _, rfl, _, rfl, _, rfl, l2, _, rfl, SqL.of G.n2, fun p3 np3 => ?_⟩
        rw [dT]
        have G := G.new (o := .lst ((roots (Pl.sizeL A) B).map V.int)) np3
        have fit : Fits z (roots (Pl.sizeL A) B).length := ⟨wz, by rw [roots_length]; omega, by rw [roots_length]; omega, fun h => by rw [roots_length]; have := mo h; omega, fun h => by rw [roots_length]; have := mt h; omega⟩
        refine ⟨b, p3, z, _, rfl, G.B, upd_same, fit, fun v kd H8 hk kw t1 t3 tr B8 U8 nv => ?_⟩
        rw [roots_length] at hk
        have G := G.but B8 U8
        obtain ⟨vs, h1, nv1⟩ := G.n1
        have vl : vs.length = Pl.sizeL F := nv1.len.trans (flatL_length 0 F)
        refine ⟨l1, vs, v, rfl, rfl, h1, small_line (by omega), ?_⟩
        have tpv := Tp.lst (o := .lst (vs ++ [v])) h1
        have nv' := nv.tp tpv
        have G := G.push1 h1 nv
        have h1' : (upd H8 l1 (.lst (vs ++ [v]))) l1 = some (.lst (vs ++ [v])) := upd_same
        -- times
        refine ⟨fun σ H' => σ = [some (.ref b), some (.int j), some (.ref l1), some (.ref l2), some (.ref l3), some (.ref l4), some (.int (0 + i)), some (.int (0 + k)), some (.str z), some (.int m), some (.int (times kd))] ∧ H' = upd H8 l1 (.lst (vs ++ [v])), ?_, ?_⟩
        · refine ⟨_, rfl, rfl, _, rfl, ite_str (fun e => ?_) (fun n => ?_)⟩
          · rw [e] at kw
            match kd, kw, hk, nv' with
            | .retry rr dd, _, hk, nv =>
              obtain ⟨a, ii, ei, ev, sq⟩ := nv
              refine ⟨_, rfl, _, rfl, l1, _, _, _, rfl, rfl, SqL.of h1', atI_last vs v, a, _, _, _, ev, rfl, sq, rfl, _, _, rfl, rfl, ?_, rfl⟩
              show [some (V.ref b), some (V.int j), some (V.ref l1), some (V.ref l2), some (V.ref l3), some (V.ref l4), some (V.int (0 + i)), some (V.int (0 + k)), some (V.str z), some (V.int m), some (V.int (1 + rr))] = _
              rw [Int.add_comm 1 rr]
              rfl
            | .plain pk, kw, _, _ => cases pk <;> exact absurd kw (by decide)
            | .pool _, kw, _, _ => exact absurd kw (show ¬ (("pool" : Str) = "retry") by decide)
            | .timeout _, kw, _, _ => exact absurd kw (show ¬ (("timeout" : Str) = "retry") by decide)
            | .orelse, kw, _, _ => exact absurd kw (by decide)
          · rw [tr n]
            exact ⟨rfl, rfl⟩
        rintro σ H9 ⟨rfl, rfl⟩
        -- tops
        obtain ⟨vs2, h2, nv2⟩ := G.n1
        have vl2 : vs2.length = Pl.sizeL F + 1 := by rw [nv2.len, List.length_append, flatL_length]; rfl
        refine ⟨_, rfl, _, rfl, _, rfl, _, rfl, l2, _, rfl, SqL.of G.n2, fun p4 np4 => ?_⟩
        rw [hT]
        have G := G.new (o := .lst ((roots 0 A).map V.int)) np4
        have h4 : (upd (upd H8 l1 (.lst (vs ++ [v]))) p4 (.lst ((roots 0 A).map V.int))) p4 = some (.lst ((roots 0 A).map V.int)) := upd_same
        obtain ⟨vs3, h3, nv3⟩ := G.n1
        have vl3 : vs3.length = Pl.sizeL F + 1 := by rw [nv3.len, List.length_append, flatL_length]; rfl
        refine ⟨_, rfl, l1, _, rfl, .inl (SqL.of h3), _, _, rfl, rfl, one, fun p5 np5 => ?_⟩
        have S5 := same_new (o := .lst [V.int ((vs3.length : Nat) - 1)]) np5
        have G := G.new (o := .lst [V.int ((vs3.length : Nat) - 1)]) np5
        have lA : (roots 0 A).length ≤ 12 := by rw [roots_length]; have := congrArg List.length eF; rw [List.length_append] at this; omega
        refine ⟨p4, p5, _, _, rfl, rfl, S5 _ _ h4, upd_same, (by rw [List.length_map]; exact Nat.le_of_lt (small_line (by simp only [List.length_singleton]; omega))), fun p6 np6 => ?_⟩
        have G := G.mov2 (T' := roots 0 A ++ [((vs3.length : Nat) : Int) - 1]) np6 (by rw [List.map_append] <;> rfl)
        -- deep
        refine ⟨_, rfl, _, rfl, _, rfl, _, rfl, l3, _, rfl, SqL.of G.n3, fun p7 np7 => ?_⟩
        rw [hD]
        have G := G.new (o := .lst ((A.map Pl.depth).map V.int)) np7
        refine ⟨_, rfl, _, rfl, _, rfl, _, rfl, l3, _, rfl, SqL.of G.n3, fun p8 np8 => ?_⟩
        rw [dD]
        refine ⟨p8, B.map Pl.depth, rfl, SqL.of upd_same, lB0, fun my hmy hy => ⟨_, _, rfl, rfl, one, fun p9 np9 => ?_⟩⟩
        have S8 := same_new (o := .lst ((B.map Pl.depth).map V.int)) np8
        have S9 := same_new (o := .lst [V.int (1 + my)]) np9
        have G := (G.new (o := .lst ((B.map Pl.depth).map V.int)) np8).new (o := .lst [V.int (1 + my)]) np9
        have lA2 : A.length ≤ 12 := by rw [roots_length] at lA; exact lA
        refine ⟨p7, p9, _, _, rfl, rfl, S9 _ _ (S8 _ _ upd_same), upd_same, (by rw [List.length_map, List.length_map]; exact Nat.le_of_lt (small_line (by simp only [List.length_singleton]; omega))), fun p10 np10 => ?_⟩
        have G := G.mov3 (T' := A.map Pl.depth ++ [1 + my]) np10 (by rw [List.map_append] <;> rfl)
        -- runs
        refine ⟨_, rfl, _, rfl, _, rfl, _, rfl, l4, _, rfl, SqL.of G.n4, fun p11 np11 => ?_⟩
        rw [hR]
        have G := G.new (o := .lst ((A.map Pl.runs).map V.int)) np11
        refine ⟨_, rfl, _, rfl, _, rfl, _, rfl, _, rfl, l4, _, rfl, SqL.of G.n4, fun p12 np12 => ?_⟩
        rw [dR]
        refine ⟨p12, B.map Pl.runs, rfl, SqL.of upd_same, _, _, rfl, rfl, .inl ⟨by omega, by omega⟩, one, fun p13 np13 => ?_⟩
        have S12 := same_new (o := .lst ((B.map Pl.runs).map V.int)) np12
        have S13 := same_new (o := .lst [V.int (times kd * (B.map Pl.runs).sum)]) np13
        have G := (G.new (o := .lst ((B.map Pl.runs).map V.int)) np12).new (o := .lst [V.int (times kd * (B.map Pl.runs).sum)]) np13
        refine ⟨p11, p13, _, _, rfl, rfl, S13 _ _ (S12 _ _ upd_same), upd_same, (by rw [List.length_map, List.length_map]; exact Nat.le_of_lt (small_line (by simp only [List.length_singleton]; omega))), fun p14 np14 => ?_⟩
        have G := G.mov4 (T' := A.map Pl.runs ++ [times kd * (B.map Pl.runs).sum]) np14 (by rw [List.map_append] <;> rfl)
        have my0 : 0 ≤ my := by
          obtain ⟨p, _, e⟩ := List.mem_map.mp hmy
          have := depth_pos p
          omega
        have hm3 : times kd * (B.map Pl.runs).sum ≤ 3 * (B.map Pl.runs).sum := Int.mul_le_mul_of_nonneg_right t3 sB
        rw [eF] at fo
        have fo' := fo.join hk t1 neB dB (Int.le_refl 6) (r' := 50 + i + 1) (by omega)
        refine ⟨p6, p10, p14, A ++ [.node kd B], _, _, _, _, rfl, G.cast (by rw [flatL_join, eF]) ?_ ?_ ?_, fo', by simp⟩
        · rw [roots_join, ← eF, vl3]
          exact congrArg (fun z => roots 0 A ++ [z]) (by omega)
        · rw [List.map_append]
          show A.map Pl.depth ++ [(Pl.node kd B).depth] = _
          rw [Pl.depth, depthL_map, maxI_eq hmy hy my0]
        · rw [List.map_append]
          show A.map Pl.runs ++ [(Pl.node kd B).runs] = _
          rw [Pl.runs, runsL_map]
      · rintro σ H5 ⟨l2, l3, l4, F, v7, v8, v9, v10, rfl, G, fo, ne⟩
        exact ⟨l2, l3, l4, F, _, _, _, _, _, rfl, G, ⟨fo.ok, fo.dp, fo.rn, fo.len, Nat.le_trans fo.size (by omega), Int.le_trans fo.sum (by omega)⟩, fun _ => ne⟩
    · rintro σ H2 ⟨l2, l3, l4, F, v6, v7, v8, v9, v10, rfl, G, fo, ne⟩
      have ne := ne (by omega)
      have i10 : (1 + r).toNat ≤ 10 := by omega
      -- the last turns
      refine ⟨3, rfl, by decide, by decide, ?_⟩
      refine for_range (n := 3) (fun t σ H' => ∃ (l2 : Addr) (F : List Pl) (D R : List Int) (v6 v7 v8 v9 v10 : Option V), σ = [some (.ref b), some (.int j), some (.ref l1), some (.ref l2), some (.ref l3), some (.ref l4), v6, v7, v8, v9, v10] ∧
        Gr K H H' b l1 l2 l3 l4 (Pl.flatL 0 F) (roots 0 F) D R ∧ Fo F (nB t) (30 + t) 60 (dB t) ∧ F ≠ [])
        ⟨l2, F, _, _, _, _, _, _, _, rfl, G, ⟨fo.ok, fo.dp, fo.rn, Nat.le_trans fo.len i10, Nat.le_trans fo.size (by omega), Int.le_trans fo.sum (by omega)⟩, ne⟩ ?_ ?_
      · rintro t σ H3 ht ⟨l2, F, D, R, v6, v7, v8, v9, v10, rfl, G, fo, ne⟩
        have fl : F.length ≤ 10 := Nat.le_trans fo.len (nB_le t)
        have fs := fo.size
        have ne1 := List.length_pos_iff.mpr ne
        refine ⟨_, rfl, l2, _, rfl, .inl (SqL.of G.n2), _, _, rfl, rfl, _, rfl, ite2 (fun c => ?_) (fun c => ?_)⟩
        · have c := of_decide_eq_true c
          rw [List.length_map, roots_length] at c
          have t2 : t ≤ 1 := nB_one (by have h := fo.len; omega)
          -- many
          refine ⟨_, rfl, l2, _, rfl, .inl (SqL.of G.n2), _, _, rfl, ?_⟩
          obtain ⟨m, em⟩ : ∃ m : Int, (if (((roots 0 F).map V.int).length : Int) < 6 then (((roots 0 F).map V.int).length : Int) else 6) = m := ⟨_, rfl⟩
          rw [em]
          rw [List.length_map, roots_length] at em
          have m1 : 1 ≤ m ∧ m ≤ 6 ∧ m ≤ F.length ∧ (m = F.length ∨ m = 6) := by
            split at em <;> omega
          obtain ⟨m1, m6, mF, mm⟩ := m1
          obtain ⟨A, B, eF, lB⟩ := split_last (F := F) (m := m.toNat) (by omega)
          have mB : m = (B.length : Int) := by omega
          have neB : B ≠ [] := fun e => by rw [e] at lB; simp at lB; omega
          have lAB : A.length + B.length = F.length := by rw [eF, List.length_append]
          have dT : cutV ((roots 0 F).map V.int) (some (-m)) none = (roots (Pl.sizeL A) B).map V.int := by
            rw [eF, roots_app, Nat.zero_add]
            exact cut_tailI (by rw [roots_length]; exact mB) m1
          have hT : cutV ((roots 0 F).map V.int) none (some (-m)) = (roots 0 A).map V.int := by
            rw [eF, roots_app, Nat.zero_add]
            exact cut_headI (by rw [roots_length]; exact mB) m1
          -- the whole of them
          obtain ⟨vs0, h0, _⟩ := G.n1
          refine ⟨_, rfl, .inl ⟨rfl, _, SqL.of h0⟩, _, rfl, five, fun l nl => ?_⟩
          have B5 := G.B
          have G := G.new (o := .lst [V.str "all", .str "race", .str "any", .str "pool", .str "sequence"]) nl
          refine ⟨_, rfl, b, 5, rfl, G.B, by decide, fun r3 H6 r30 r38 B6 U6 => ?_⟩
          have hl := B5.keepL nl U6
          have G := G.but B6 U6
          obtain ⟨z, hz, wz, n1, n2, n3⟩ : ∃ z : Str, atI [V.str "all", .str "race", .str "any", .str "pool", .str "sequence"] r3 = some (.str z) ∧ Wd z ∧ z ≠ "timeout" ∧ z ≠ "retry" ∧ z ≠ "orelse" := by
            have c : r3 = 0 ∨ r3 = 1 ∨ r3 = 2 ∨ r3 = 3 ∨ r3 = 4 := by omega
            rcases c with rfl | rfl | rfl | rfl | rfl
            · exact ⟨_, rfl, .inl rfl, by decide, by decide, by decide⟩
            · exact ⟨_, rfl, .inr (.inl rfl), by decide, by decide, by decide⟩
            · exact ⟨_, rfl, .inr (.inr (.inl rfl)), by decide, by decide, by decide⟩
            · exact ⟨_, rfl, .inr (.inr (.inr (.inl rfl))), by decide, by decide, by decide⟩
            · exact ⟨_, rfl, .inr (.inr (.inr (.inr (.inr (.inl rfl))))), by decide, by decide, by decide⟩
          refine ⟨l, _, _, _, rfl, rfl, SqL.of hl, hz, ?_⟩
          refine ⟨_, rfl, _, rfl, _, rfl, _, rfl, l2, _, rfl, SqL.of G.n2, fun p3 np3 => ?_⟩
          rw [dT]
          have G := G.new (o := .lst ((roots (Pl.sizeL A) B).map V.int)) np3
          have fit : Fits z (roots (Pl.sizeL A) B).length := ⟨wz, by rw [roots_length]; omega, by rw [roots_length]; omega, fun h => (h.elim (fun e => absurd e n1) fun e => absurd e n2), fun h => absurd h n3⟩
          refine ⟨b, p3, z, _, rfl, G.B, upd_same, fit, fun v kd H8 hk kw t1 t3 tr B8 U8 nv => ?_⟩
          rw [roots_length] at hk
          have G := G.but B8 U8
          obtain ⟨vs, h1, nv1⟩ := G.n1
          have vl : vs.length = Pl.sizeL F := nv1.len.trans (flatL_length 0 F)
          refine ⟨l1, vs, v, rfl, rfl, h1, small_line (by omega), ?_⟩
          have G := G.push1 h1 nv
          -- tops
          obtain ⟨vs2, h2, nv2⟩ := G.n1
          refine ⟨_, rfl, _, rfl, _, rfl, _, rfl, l2, _, rfl, SqL.of G.n2, fun p4 np4 => ?_⟩
          rw [hT]
          have G := G.new (o := .lst ((roots 0 A).map V.int)) np4
          have h4 : (upd (upd H8 l1 (.lst (vs ++ [v]))) p4 (.lst ((roots 0 A).map V.int))) p4 = some (.lst ((roots 0 A).map V.int)) := upd_same
          obtain ⟨vs3, h3, nv3⟩ := G.n1
          have vl3 : vs3.length = Pl.sizeL F + 1 := by rw [nv3.len, List.length_append, flatL_length]; rfl
          refine ⟨_, rfl, l1, _, rfl, .inl (SqL.of h3), _, _, rfl, rfl, one, fun p5 np5 => ?_⟩
          have S5 := same_new (o := .lst [V.int ((vs3.length : Nat) - 1)]) np5
          have G := G.new (o := .lst [V.int ((vs3.length : Nat) - 1)]) np5
          have lA : (roots 0 A).length ≤ 12 := by rw [roots_length]; omega
          refine ⟨p4, p5, _, _, rfl, rfl, S5 _ _ h4, upd_same, (by rw [List.length_map]; exact Nat.le_of_lt (small_line (by simp only [List.length_singleton]; omega))), fun p6 np6 => ?_⟩
          have G := G.mov2 (T' := roots 0 A ++ [((vs3.length : Nat) : Int) - 1]) np6 (by rw [List.map_append] <;> rfl)
          have tk : times kd = 1 := tr n2
          rw [eF] at fo
          have fo' := fo.join hk t1 neB (d' := dB (t + 1)) (fun p hp => Int.lt_of_le_of_lt (fo.dp p (List.mem_append_right _ hp)) (dB_lt t2)) (dB_le t) (r' := 60)
            (by have h := fo.sum; rw [List.map_append, sum_app] at h; rw [tk]; omega)
          have ll : A.length + 1 ≤ nB (t + 1) := nB_next (c := B.length) t2 (by have h := fo.len; rw [List.length_append] at h; exact h) (by omega)
          refine ⟨p6, A ++ [.node kd B], D, R, _, _, _, _, _, rfl, G.cast (by rw [flatL_join, eF]) ?_ rfl rfl, ⟨fo'.ok, fo'.dp, fo'.rn, by simpa using ll, fo'.size, fo'.sum⟩, by simp⟩
          · rw [roots_join, ← eF, vl3]
            exact congrArg (fun z => roots 0 A ++ [z]) (by omega)
        · have c : ¬ 1 < (((roots 0 F).map V.int).length : Int) := fun y => c (decide_eq_true y)
          rw [List.length_map, roots_length] at c
          have np := nB_pos (t + 1)
          exact ⟨l2, F, D, R, _, _, _, _, _, rfl, G, ⟨fo.ok, fun p hp => Int.le_trans (fo.dp p hp) (dB_le t), fo.rn, by omega, Nat.le_trans fo.size (by omega), fo.sum⟩, ne⟩
      · rintro σ H3 ⟨l2, F, D, R, v6, v7, v8, v9, v10, rfl, G, fo, ne⟩
        have fl : F.length ≤ 1 := fo.len
        obtain ⟨p, rfl⟩ : ∃ p, F = [p] := List.length_eq_one_iff.mp (by have := List.length_pos_iff.mpr ne; omega)
        obtain ⟨vs, h1, nv1⟩ := G.n1
        refine ⟨_, rfl, l1, _, rfl, .inl ⟨SqL.of h1, fun u hu => ?_⟩⟩
        have hm : p ∈ [p] := List.mem_singleton.mpr rfl
        have wp : Whole p := ⟨fo.ok p hm, fo.dp p hm, by have h := fo.sum; simpa using h, by have h := fo.size; rw [sizeL_one] at h; omega⟩
        rw [flatL_one] at nv1
        exact q _ p _ wp (G.B.new hu) (G.U.new hu) ⟨u, vs, rfl, SqT.of upd_same, nv1.tp (Tp.same (same_new hu))⟩
end
end LB

set_option maxRecDepth 100000
set_option maxHeartbeats 8000000
namespace LB
open PySem PySem.Spec PyProof.Rows L2
/-! ### what is read of a node -/
def Nd.word : Nd → Str
  | .job .. => "job"
  | .whole k _ => k.word
theorem NdAt.head {K : PySem.W.Frag} {H : Hp} {v : V} {n : Nd} (h : NdAt K H v n) : ∃ a xs, v = .ref a ∧ SqT K H a (.str n.word :: xs) := by
  match n, h with
  | .job .., ⟨a, e, q⟩ => exact ⟨a, _, e, q⟩
  | .whole (.plain w) ps, ⟨a, b, e, q, r⟩ => exact ⟨a, _, e, q⟩
  | .whole (.pool n) ps, ⟨a, b, e, q, r⟩ => exact ⟨a, _, e, q⟩
  | .whole (.timeout t) ps, ⟨a, i, e0, e, q⟩ => exact ⟨a, _, e, q⟩
  | .whole .orelse ps, ⟨a, i, j, e0, e, q⟩ => exact ⟨a, _, e, q⟩
  | .whole (.retry r d) ps, ⟨a, i, e0, e, q⟩ => exact ⟨a, _, e, q⟩
theorem atI_head {x : V} {xs : List V} : atI (x :: xs) 0 = some x := atI_nat (j := 0) (v := x) (xs := x :: xs) rfl
theorem pk_ne (w : Pk) : w.word ≠ "job" ∧ w.word ≠ "timeout" ∧ w.word ≠ "retry" ∧ w.word ≠ "orelse" ∧ w.word ≠ "pool" := by
  cases w <;> exact ⟨by decide, by decide, by decide, by decide, by decide⟩
theorem of_job {n : Nd} (e : n.word = "job") : ∃ d g v c f, n = .job d g v c f := by
  match n, e with
  | .job d g v c f, _ => exact ⟨d, g, v, c, f, rfl⟩
  | .whole (.plain w) ps, e => exact absurd e (pk_ne w).1
  | .whole (.pool n) ps, e => exact absurd e (show ¬ (("pool" : Str) = "job") by decide)
  | .whole (.timeout t) ps, e => exact absurd e (show ¬ (("timeout" : Str) = "job") by decide)
  | .whole .orelse ps, e => exact absurd e (show ¬ (("orelse" : Str) = "job") by decide)
  | .whole (.retry r d) ps, e => exact absurd e (show ¬ (("retry" : Str) = "job") by decide)
theorem isJob_word (n : Nd) : decide (V.str n.word = V.str "job") = isJob n := by
  match n with
  | .job d g v c f => exact decide_eq_true rfl
  | .whole k ps =>
    refine decide_eq_false fun e => ?_
    obtain ⟨_, _, _, _, _, e2⟩ := of_job (V.str.inj e)
    cases e2
/-- the wholes that are told by their last item -/
theorem of_rest {n : Nd} (h1 : n.word ≠ "job") (h2 : n.word ≠ "timeout") (h3 : n.word ≠ "retry") (h4 : n.word ≠ "orelse") {K : PySem.W.Frag} {H : Hp} {v : V} (h : NdAt K H v n) :
    ∃ a b xs, v = .ref a ∧ SqT K H a (xs ++ [.ref b]) ∧ SqT K H b (n.parts.map V.int) := by
  match n, h with
  | .job .., _ => exact absurd rfl h1
  | .whole (.plain w) ps, ⟨a, b, e, q, r⟩ => exact ⟨a, b, [_], e, q, r⟩
  | .whole (.pool n) ps, ⟨a, b, e, q, r⟩ => exact ⟨a, b, [_, _], e, q, r⟩
  | .whole (.timeout t) ps, _ => exact absurd rfl h2
  | .whole .orelse ps, _ => exact absurd rfl h4
  | .whole (.retry r d) ps, _ => exact absurd rfl h3
theorem of_one {n : Nd} (h : n.word = "timeout" ∨ n.word = "retry") {K : PySem.W.Frag} {H : Hp} {v : V} (hv : NdAt K H v n) : ∃ a i xs, n.parts = [i] ∧ v = .ref a ∧ SqT K H a (xs ++ [.int i]) := by
  match n, hv with
  | .job .., _ => exact h.elim (fun e => absurd e (show ¬ (("job" : Str) = "timeout") by decide)) fun e => absurd e (show ¬ (("job" : Str) = "retry") by decide)
  | .whole (.plain w) ps, _ => exact h.elim (fun e => absurd e (pk_ne w).2.1) fun e => absurd e (pk_ne w).2.2.1
  | .whole (.pool n) ps, _ => exact h.elim (fun e => absurd e (show ¬ (("pool" : Str) = "timeout") by decide)) fun e => absurd e (show ¬ (("pool" : Str) = "retry") by decide)
  | .whole (.timeout t) ps, ⟨a, i, e0, e, q⟩ => exact ⟨a, i, [_, _], e0, e, q⟩
  | .whole .orelse ps, _ => exact h.elim (fun e => absurd e (show ¬ (("orelse" : Str) = "timeout") by decide)) fun e => absurd e (show ¬ (("orelse" : Str) = "retry") by decide)
  | .whole (.retry r d) ps, ⟨a, i, e0, e, q⟩ => exact ⟨a, i, [_, _, _], e0, e, q⟩
theorem of_timeout {n : Nd} (h : n.word = "timeout") {K : PySem.W.Frag} {H : Hp} {v : V} (hv : NdAt K H v n) : ∃ a i t, n.parts = [i] ∧ v = .ref a ∧ SqT K H a [.str "timeout", .int t, .int i] := by
  match n, hv with
  | .job .., _ => exact absurd h (show ¬ (("job" : Str) = "timeout") by decide)
  | .whole (.plain w) ps, _ => exact absurd h (pk_ne w).2.1
  | .whole (.pool n) ps, _ => exact absurd h (show ¬ (("pool" : Str) = "timeout") by decide)
  | .whole (.timeout t) ps, ⟨a, i, e0, e, q⟩ => exact ⟨a, i, t, e0, e, q⟩
  | .whole .orelse ps, _ => exact absurd h (show ¬ (("orelse" : Str) = "timeout") by decide)
  | .whole (.retry r d) ps, _ => exact absurd h (show ¬ (("retry" : Str) = "timeout") by decide)
theorem of_retry {n : Nd} (h : n.word = "retry") {K : PySem.W.Frag} {H : Hp} {v : V} (hv : NdAt K H v n) : ∃ a i r d, n = .whole (.retry r d) [i] ∧ v = .ref a ∧ SqT K H a [.str "retry", .int r, .int d, .int i] := by
  match n, hv with
  | .job .., _ => exact absurd h (show ¬ (("job" : Str) = "retry") by decide)
  | .whole (.plain w) ps, _ => exact absurd h (pk_ne w).2.2.1
  | .whole (.pool n) ps, _ => exact absurd h (show ¬ (("pool" : Str) = "retry") by decide)
  | .whole (.timeout t) ps, _ => exact absurd h (show ¬ (("timeout" : Str) = "retry") by decide)
  | .whole .orelse ps, _ => exact absurd h (show ¬ (("orelse" : Str) = "retry") by decide)
  | .whole (.retry r d) ps, ⟨a, i, e0, e, q⟩ => exact ⟨a, i, r, d, by rw [e0], e, q⟩
theorem of_orelse {n : Nd} (h : n.word = "orelse") {K : PySem.W.Frag} {H : Hp} {v : V} (hv : NdAt K H v n) : ∃ a i j, n.parts = [i, j] ∧ v = .ref a ∧ SqT K H a [.str "orelse", .int i, .int j] := by
  match n, hv with
  | .job .., _ => exact absurd h (show ¬ (("job" : Str) = "orelse") by decide)
  | .whole (.plain w) ps, _ => exact absurd h (pk_ne w).2.2.2.1
  | .whole (.pool n) ps, _ => exact absurd h (show ¬ (("pool" : Str) = "orelse") by decide)
  | .whole (.timeout t) ps, _ => exact absurd h (show ¬ (("timeout" : Str) = "orelse") by decide)
  | .whole .orelse ps, ⟨a, i, j, e0, e, q⟩ => exact ⟨a, i, j, e0, e, q⟩
  | .whole (.retry r d) ps, _ => exact absurd h (show ¬ (("retry" : Str) = "orelse") by decide)
theorem in_two {x a b : Str} (h : inV (V.str x) [V.str a, V.str b] = true) : a = x ∨ b = x := by
  have h : ((a == x) || ((b == x) || false)) = true := h
  rw [Bool.or_false, Bool.or_eq_true] at h
  exact h.imp (fun e => eq_of_beq e) fun e => eq_of_beq e
theorem in_two_of {x a b : Str} (h : a = x ∨ b = x) : inV (V.str x) [V.str a, V.str b] = true := by
  show ((a == x) || ((b == x) || false)) = true
  rw [Bool.or_false, Bool.or_eq_true]
  exact h.imp (fun e => beq_iff_eq.mpr e) fun e => beq_iff_eq.mpr e
theorem times_else {k : Kd} (h : k.word ≠ "retry") : times k = 1 := by
  cases k with
  | retry r d => exact absurd rfl h
  | _ => rfl
section
variable {P : Program} {w : World} {K : PySem.W.Frag} {mg : Str → Option Value} {base : Heap}
def spParts (K : PySem.W.Frag) : Sp := fun vs H Q _ => ∃ (v : V) (n : Nd), vs = [v] ∧ NdAt K H v n ∧ ∀ (t : Addr) (H' : Hp), Same H H' → SqT K H' t (n.parts.map V.int) → Q (.ref t) H'
theorem scParts : FnScope ["node", "word"] ["node"] (defScope sParts) := ⟨rfl, rfl, rfl, by decide +kernel, rfl, by decide +kernel, by decide +kernel⟩
theorem ok_parts {f : Addr} {fd : FuncData} (F : Fun K "parts_of" "parts_of" sParts f fd) : FnOk P w K mg base CX0 1 f fd ["node"] (spParts K) := by
  refine F.ok scParts (fun vs H Q E h => ?_) (fun cdv A outer s H vs Q E hr h => ?_)
  · obtain ⟨v, n, rfl, _⟩ := h
    rfl
  · obtain ⟨v, n, rfl, hv, q⟩ := h
    have nd := scParts.nd
    have zero : (0 : Nat) ≤ sizeLine := by decide
    have one : (1 : Nat) ≤ sizeLine := by decide
    have two : (2 : Nat) ≤ sizeLine := by decide
    obtain ⟨a, xs, rfl, sq⟩ := hv.head
    refine ⟨_, (pss_cons (ps_set (i := 1) nd rfl (Or.inl rfl) (pe_ix ix_tup (pv 0) pe_int (fun _ _ => rfl)))
        (pss_cons (ps_if (pt_cmpR op_eq (pv 1) pe_str (nomark _)) (pss_one (ps_ret (pe_tup pa_nil))) pss_nil)
        (pss_cons (ps_if (pt_cmpR op_in_seq (pv 1) (pe_tup (pa_cons pe_str (pa_cons pe_str pa_nil))) rfl) (pss_one (ps_ret (pe_tup (pa_cons (pe_ix ix_tup (pv 0) (pe_un un_neg pe_int) (fun _ _ => rfl)) pa_nil)))) pss_nil)
        (pss_cons (ps_if (pt_cmpR op_eq (pv 1) pe_str (nomark _)) (pss_one (ps_ret (pe_tup (pa_cons (pe_ix ix_tup (pv 0) pe_int (fun _ _ => rfl)) (pa_cons (pe_ix ix_tup (pv 0) pe_int (fun _ _ => rfl)) pa_nil))))) pss_nil)
        (pss_one (ps_ret (pe_ix ix_tup (pv 0) (pe_un un_neg pe_int) (fun _ _ => rfl)))))))), ?_⟩
    refine ⟨_, rfl, a, _, _, _, rfl, rfl, sq, atI_head, ?_⟩
    refine ⟨_, rfl, rfl, _, rfl, ite_str (fun e => ?_) (fun n1 => ?_)⟩
    · obtain ⟨_, _, _, _, _, rfl⟩ := of_job e
      exact ⟨zero, fun t nt => q t _ (same_new nt) (SqT.of upd_same)⟩
    refine ⟨_, rfl, two, fun t nt => ⟨t, _, rfl, .inr (SqT.of upd_same), rfl, rfl, _, rfl, ?_⟩⟩
    have S := same_new (o := .tup [V.str "timeout", .str "retry"]) nt
    have hv := hv.tp (Tp.same S)
    refine ite2 (fun c => ?_) (fun c => ?_)
    · have c : n.word = "timeout" ∨ n.word = "retry" := by
        rcases in_two c with h | h
        · exact .inl h.symm
        · exact .inr h.symm
      obtain ⟨a, i, xs, ep, e, sq⟩ := of_one c hv
      cases e
      refine ⟨_, rfl, _, rfl, a, _, _, _, rfl, rfl, sq, atI_last _ _, one, fun u nu => ?_⟩
      refine q u _ (S.trans (same_new nu)) ?_
      rw [ep]
      exact SqT.of upd_same
    · have c : n.word ≠ "timeout" ∧ n.word ≠ "retry" := ⟨fun h => c (in_two_of (.inl h.symm)), fun h => c (in_two_of (.inr h.symm))⟩
      refine ⟨_, rfl, rfl, _, rfl, ite_str (fun e => ?_) (fun n1 => ?_)⟩
      · obtain ⟨a, i, j, ep, e, sq⟩ := of_orelse e hv
        cases e
        refine ⟨_, rfl, a, _, _, _, rfl, rfl, sq, rfl, _, rfl, a, _, _, _, rfl, rfl, sq, rfl, two, fun u nu => ?_⟩
        refine q u _ (S.trans (same_new nu)) ?_
        rw [ep]
        exact SqT.of upd_same
      · obtain ⟨a, b, xs, e, sq, sb⟩ := of_rest (by assumption) c.1 c.2 n1 hv
        cases e
        refine ⟨_, rfl, _, rfl, a, _, _, _, rfl, rfl, sq, atI_last _ _, ?_⟩
        exact q b _ S sb
theorem scLParts : FnScope ["node"] ["node"] (defScope sLParts) := ⟨rfl, rfl, rfl, by decide +kernel, rfl, by decide +kernel, by decide +kernel⟩
theorem ok_lparts {f : Addr} {fd : FuncData} (F : Fun K "_law_parts" "_law_parts" sLParts f fd) : FnOk P w K mg base CX0 1 f fd ["node"] (spParts K) := by
  refine F.ok scLParts (fun vs H Q E h => ?_) (fun cdv A outer s H vs Q E hr h => ?_)
  · obtain ⟨v, n, rfl, _⟩ := h
    rfl
  · obtain ⟨v, n, rfl, hv, q⟩ := h
    have nd := scLParts.nd
    have zero : (0 : Nat) ≤ sizeLine := by decide
    have one : (1 : Nat) ≤ sizeLine := by decide
    have two : (2 : Nat) ≤ sizeLine := by decide
    obtain ⟨a, xs, rfl, sq⟩ := hv.head
    refine ⟨_, (pss_cons (ps_if (pt_cmpR op_eq (pe_ix ix_tup (pv 0) pe_int (fun _ _ => rfl)) pe_str (nomark _)) (pss_one (ps_ret (pe_tup pa_nil))) pss_nil)
        (pss_cons (ps_if (pt_cmpR op_eq (pe_ix ix_tup (pv 0) pe_int (fun _ _ => rfl)) pe_str (nomark _)) (pss_one (ps_ret (pe_tup (pa_cons (pe_ix ix_tup (pv 0) pe_int (fun _ _ => rfl)) pa_nil)))) pss_nil)
        (pss_cons (ps_if (pt_cmpR op_eq (pe_ix ix_tup (pv 0) pe_int (fun _ _ => rfl)) pe_str (nomark _)) (pss_one (ps_ret (pe_tup (pa_cons (pe_ix ix_tup (pv 0) pe_int (fun _ _ => rfl)) (pa_cons (pe_ix ix_tup (pv 0) pe_int (fun _ _ => rfl)) pa_nil))))) pss_nil)
        (pss_cons (ps_if (pt_cmpR op_eq (pe_ix ix_tup (pv 0) pe_int (fun _ _ => rfl)) pe_str (nomark _)) (pss_one (ps_ret (pe_tup (pa_cons (pe_ix ix_tup (pv 0) pe_int (fun _ _ => rfl)) pa_nil)))) pss_nil)
        (pss_one (ps_ret (pe_ix ix_tup (pv 0) (pe_un un_neg pe_int) (fun _ _ => rfl)))))))), ?_⟩
    refine ⟨_, rfl, a, _, _, _, rfl, rfl, sq, atI_head, rfl, _, rfl, ite_str (fun e => ?_) (fun n1 => ?_)⟩
    · obtain ⟨_, _, _, _, _, rfl⟩ := of_job e
      exact ⟨zero, fun t nt => q t _ (same_new nt) (SqT.of upd_same)⟩
    refine ⟨_, rfl, a, _, _, _, rfl, rfl, sq, atI_head, rfl, _, rfl, ite_str (fun e => ?_) (fun n2 => ?_)⟩
    · obtain ⟨a, i, t, ep, e, sq⟩ := of_timeout e hv
      cases e
      refine ⟨_, rfl, a, _, _, _, rfl, rfl, sq, rfl, one, fun u nu => ?_⟩
      refine q u _ (same_new nu) ?_
      rw [ep]
      exact SqT.of upd_same
    refine ⟨_, rfl, a, _, _, _, rfl, rfl, sq, atI_head, rfl, _, rfl, ite_str (fun e => ?_) (fun n3 => ?_)⟩
    · obtain ⟨a, i, j, ep, e, sq⟩ := of_orelse e hv
      cases e
      refine ⟨_, rfl, a, _, _, _, rfl, rfl, sq, rfl, _, rfl, a, _, _, _, rfl, rfl, sq, rfl, two, fun u nu => ?_⟩
      refine q u _ (same_new nu) ?_
      rw [ep]
      exact SqT.of upd_same
    refine ⟨_, rfl, a, _, _, _, rfl, rfl, sq, atI_head, rfl, _, rfl, ite_str (fun e => ?_) (fun n4 => ?_)⟩
    · obtain ⟨a, i, r, d, rfl, e, sq⟩ := of_retry e hv
      cases e
      refine ⟨_, rfl, a, _, _, _, rfl, rfl, sq, rfl, one, fun u nu => ?_⟩
      exact q u _ (same_new nu) (SqT.of upd_same)
    · obtain ⟨a, b, xs, e, sq, sb⟩ := of_rest n1 n2 n4 n3 hv
      cases e
      refine ⟨_, rfl, _, rfl, a, _, _, _, rfl, rfl, sq, atI_last _ _, ?_⟩
      exact q b _ (Same.refl H) sb
/-- how often its parts run -/
def Nd.times : Nd → Int
  | .job .. => 1
  | .whole k _ => LB.times k
def spTimes (K : PySem.W.Frag) : Sp := fun vs H Q _ => ∃ (v : V) (n : Nd), vs = [v] ∧ NdAt K H v n ∧ Q (.int n.times) H
theorem scTimes : FnScope ["node"] ["node"] (defScope sTimes) := ⟨rfl, rfl, rfl, by decide +kernel, rfl, by decide +kernel, by decide +kernel⟩
theorem Nd.times_else {n : Nd} (h : n.word ≠ "retry") : n.times = 1 := by
  cases n with
  | job => rfl
  | whole k ps => exact LB.times_else h
theorem ok_times {f : Addr} {fd : FuncData} (F : Fun K "times_run" "times_run" sTimes f fd) : FnOk P w K mg base CX0 1 f fd ["node"] (spTimes K) := by
  refine F.ok scTimes (fun vs H Q E h => ?_) (fun cdv A outer s H vs Q E hr h => ?_)
  · obtain ⟨v, n, rfl, _⟩ := h
    rfl
  · obtain ⟨v, n, rfl, hv, q⟩ := h
    have nd := scTimes.nd
    obtain ⟨a, xs, rfl, sq⟩ := hv.head
    refine ⟨_, (pss_cons (ps_if (pt_cmpR op_eq (pe_ix ix_tup (pv 0) pe_int (fun _ _ => rfl)) pe_str (nomark _)) (pss_one (ps_ret (pe_op op_add (pe_ix ix_tup (pv 0) pe_int (fun _ _ => rfl)) pe_int))) pss_nil)
        (pss_one (ps_ret pe_int))), ?_⟩
    refine ⟨_, rfl, a, _, _, _, rfl, rfl, sq, atI_head, rfl, _, rfl, ite_str (fun e => ?_) (fun n1 => ?_)⟩
    · obtain ⟨a, i, r, d, rfl, e, sq⟩ := of_retry e hv
      cases e
      exact ⟨_, rfl, a, _, _, _, rfl, rfl, sq, rfl, _, _, rfl, rfl, q⟩
    · rw [Nd.times_else n1] at q
      exact q
end
end LB

set_option maxRecDepth 100000
set_option maxHeartbeats 8000000
namespace LB
open PySem PySem.Spec PyProof.Rows L2
theorem ix_listK {X : Cx} {K : PySem.W.Frag} (h : X.K = K) : IxR X (rIxL K) := by
  subst h
  exact ix_list
theorem ix_tupK {X : Cx} {K : PySem.W.Frag} (h : X.K = K) : IxR X (rIxT K) := by
  subst h
  exact ix_tup
theorem map_at {ns : List Int} {j : Nat} {x : V} (h : (ns.map V.int)[j]? = some x) : ∃ q, ns[j]? = some q ∧ x = .int q := by
  rw [List.getElem?_map] at h
  obtain ⟨q, h1, h2⟩ := Option.map_eq_some_iff.mp h
  exact ⟨q, h1, h2.symm⟩
theorem at_map_rows {rs : List Row} (f : Row → Int) {q : Int} (h0 : 0 ≤ q) (h1 : q < (rs.length : Int)) : atI ((rs.map f).map V.int) q = some (.int (f (rowN rs q))) := by
  obtain ⟨j, rfl⟩ : ∃ j : Nat, q = (j : Int) := ⟨q.toNat, by omega⟩
  have h := (rowN_mem h0 h1).2
  rw [Int.toNat_natCast] at h
  exact atI_nat (by rw [List.getElem?_map, List.getElem?_map, h]; rfl)
/-- a plan's row of nodes -/
structure OkN (N : List Nd) : Prop where
  bk : Back 0 N
  ok : ∀ n ∈ N, NdOk n
  len : N.length ≤ 40
theorem OkN.few {N : List Nd} (h : OkN N) : ∀ n ∈ N, n.parts.length ≤ 6 := by
  intro n hn
  have h := h.ok n hn
  cases n with
  | job => exact Nat.zero_le 6
  | whole k ps =>
    have h : KdOk k ps.length := h
    show ps.length ≤ 6
    cases k with
    | plain _ => exact h.2
    | pool _ => exact h.2.1
    | timeout _ => have := h.1; omega
    | orelse => have e : ps.length = 2 := h; omega
    | retry _ _ => have := h.1; omega
theorem rowAt_deep (rs : List Row) (n : Nd) : (rowAt rs n).deep = 1 + maxI (n.parts.map fun q => (rowN rs q).deep) := by
  cases n with
  | job => rfl
  | whole => rfl
theorem rowAt_runs (rs : List Row) (n : Nd) (h : n.word ≠ "job") : (rowAt rs n).runs = n.times * (n.parts.map fun q => (rowN rs q).runs).sum := by
  cases n with
  | job => exact absurd rfl h
  | whole => rfl
section
variable {P : Program} {w : World} {K : PySem.W.Frag} {mg : Str → Option Value} {base : Heap}
def spDepths (K : PySem.W.Frag) : Sp := fun vs H Q _ => ∃ (v : V) (N : List Nd), vs = [v] ∧ PlanAt K H v N ∧ OkN N ∧ ∀ (p : Addr) (H' : Hp), Same H H' → H' p = some (.lst (((rowsOn [] N).map Row.deep).map V.int)) → Q (.ref p) H'
theorem scDepths : FnScope ["plan", "found", "node", "part"] ["plan"] (defScope sDepths) := ⟨rfl, rfl, rfl, by decide +kernel, rfl, by decide +kernel, by decide +kernel⟩
theorem ok_depths {f fP : Addr} {fd fdP : FuncData} (F : Fun K "depths" "depths" sDepths f fd) (M : NamesP mg) (FP : Fun K "parts_of" "parts_of" sParts fP fdP) (mP : mg "parts_of" = some (.ref fP)) (bP : Binds K fdP ["node"] []) :
    FnOk P w K mg base CX0 2 f fd ["plan"] (spDepths K) := by
  have GP : FnOk P w K mg base CX0 1 fP fdP ["node"] (spParts K) := ok_parts FP
  have kP := FP.kp
  refine F.ok scDepths (fun vs H Q E h => ?_) (fun cdv A outer s H vs Q E hr h => ?_)
  · obtain ⟨v, N, rfl, _⟩ := h
    rfl
  · obtain ⟨v, N, rfl, ⟨a, vs, rfl, sq, nv⟩, ok, q⟩ := h
    have nd := scDepths.nd
    have zero : (0 : Nat) ≤ sizeLine := by decide
    refine ⟨_, (pss_cons (ps_set (i := 1) nd rfl (Or.inr rfl) (pe_lst pa_nil))
        (pss_cons (ps_for PassesOwn.never rfl (pi_tup (pv 0)) (pg_name (i := 2) nd rfl (Or.inl rfl)) (pss_one (ps_expr (pe_bm PySem.F.plainAttrs_list PySem.F.slot_list_append PySem.F.type_list_append mt_append (pv 1) (pa_cons (pe_op op_add pe_int (pe_callBK (call_maxD rfl hr.units) (by rfl) M.max (by decide +kernel) (pa_cons (pe_lc (own := [("part", 3)]) (g := (gName 3)) rfl nd (pi_tup (pe_call GP (hr.mono (by decide)) rfl mP kP bP .nil pass0 (pa_cons (pv 2) pa_nil))) (blkOk_by (N := ["plan", "found", "node", "part"]) (sc := (defScope sDepths)) (by decide +kernel)) (fun _ _ _ _ _ => (pg_name (i := 3) nd rfl (Or.inl rfl))) (fun _ _ _ _ _ => pts_nil) (fun _ _ _ _ _ => (pe_ix (ix_listK (K := K) rfl) (pv 1) (pv 3) (fun _ _ => rfl)))) pa_nil) (pk_cons pe_int pk_nil))) pa_nil)))))
        (pss_one (ps_ret (pv 1))))), ?_⟩
    refine ⟨zero, fun p np => ?_⟩
    refine ⟨_, rfl, a, rfl, ⟨vs, (same_new np) |> fun S => (Tp.same S).seq sq⟩, ?_⟩
    refine for_tup (xs := vs) (fun i σ H' => ∃ (v2 : Option V), σ = [some (.ref a), some (.ref p), v2, none] ∧ Same H H' ∧ H' p = some (.lst (((rowsOn [] (N.take i)).map Row.deep).map V.int)))
      ⟨none, rfl, same_new np, upd_same⟩ (fun i σ H' _ h => ?_) ?_ ?_
    · obtain ⟨_, _, S, _⟩ := h
      exact (Tp.same S).seq sq
    · rintro i u σ H1 hu ⟨v2, rfl, S, hp⟩
      have iN : i < N.length := by rw [← nv.len]; exact (List.getElem?_eq_some_iff.mp hu).1
      obtain ⟨u', hu', nu⟩ := nv.at_ i N[i] (List.getElem?_eq_getElem iN)
      cases hu.symm.trans hu'
      have nu := nu.tp (Tp.same S)
      refine ⟨_, rfl, .inl ⟨rfl, _, SqL.of hp⟩, ?_⟩
      refine ⟨_, rfl, u, _, rfl, nu, fun t H2 S2 sT => ⟨t, rfl, ⟨_, sT⟩, fun D nD => ?_⟩⟩
      have hp2 := S2 _ _ hp
      have len0 : (rowsOn [] (N.take i)).length = i := by rw [rowsOn_length, List.length_take]; simp; omega
      refine lc_tup (xs := N[i].parts.map V.int) (fun j H' => Same H2 H' ∧ H' D = some (.lst (((N[i].parts.take j).map fun q => (rowN (rowsOn [] (N.take i)) q).deep).map V.int)))
        ⟨same_new nD, upd_same⟩ (fun j H' _ h => (Tp.same h.1).seq sT) ?_ ?_
      · rintro j x H3 hx ⟨S3, hD⟩
        obtain ⟨q', hq, rfl⟩ := map_at hx
        have hb := ok.bk i _ (List.getElem?_eq_getElem iN) q' (List.mem_of_getElem? hq)
        refine ⟨rfl, _, rfl, _, rfl, p, _, _, _, rfl, rfl, SqL.of (S3 _ _ hp2), (at_map_rows Row.deep hb.1 (by rw [len0]; omega)), _, hD, ?_, ?_, ?_⟩
        · rw [List.length_map, List.length_map, List.length_take]
          have := ok.few _ (List.getElem_mem iN)
          exact small_line (by omega)
        · exact same_upd S3 nD
        · rw [take_succ hq, List.map_append, List.map_append]
          exact upd_same
      · rintro H3 ⟨S3, hD⟩
        rw [List.length_map, List.take_length] at hD
        have S' := S.trans (S2.trans S3)
        have hp3 := S3 _ _ hp2
        have key : ∀ m : Int, m = maxI (N[i].parts.map fun q => (rowN (rowsOn [] (N.take i)) q).deep) → (rowsOn [] (N.take (i + 1))).map Row.deep = (rowsOn [] (N.take i)).map Row.deep ++ [1 + m] := fun m e => by
          rw [rowsOn_take (List.getElem?_eq_getElem iN), List.map_append]
          refine congrArg (fun z => _ ++ [z]) ?_
          rw [rowAt_deep, e]
        have fin : ∀ m : Int, m = maxI (N[i].parts.map fun q => (rowN (rowsOn [] (N.take i)) q).deep) → HO.lst (((rowsOn [] (N.take i)).map Row.deep).map V.int ++ [V.int (1 + m)]) = .lst (((rowsOn [] (N.take (i + 1))).map Row.deep).map V.int) := fun m e => by
          rw [key m e, List.map_append]
          rfl
        have sl : (((rowsOn [] (N.take i)).map Row.deep).map V.int).length < sizeLine := by
          rw [List.length_map, List.length_map, len0]
          exact small_line (by have := ok.len; omega)
        refine ⟨D, _, 0, rfl, rfl, SqL.of hD, fun e => ?_, fun m hm hx => ?_⟩
        · refine ⟨_, _, rfl, rfl, p, _, _, rfl, rfl, hp3, sl, _, rfl, same_upd S' np, ?_⟩
          rw [fin 0 (by rw [e]; rfl)]
          exact upd_same
        · refine ⟨_, _, rfl, rfl, p, _, _, rfl, rfl, hp3, sl, _, rfl, same_upd S' np, ?_⟩
          rw [fin m (maxI_eq hm hx ?_).symm]
          · exact upd_same
          · obtain ⟨q', hq', e⟩ := List.mem_map.mp hm
            have hb := ok.bk i _ (List.getElem?_eq_getElem iN) q' hq'
            have := deep_pos (N.take i) [] (fun _ h => nomatch h) _ (rowN_mem (q := q') hb.1 (by rw [len0]; omega)).1
            omega
    · rintro σ H1 ⟨v2, rfl, S, hp⟩
      rw [nv.len, List.take_length] at hp
      exact ⟨_, rfl, q p H1 S hp⟩
end
end LB

set_option maxRecDepth 100000
set_option maxHeartbeats 8000000
namespace LB
open PySem PySem.Spec PyProof.Rows L2
theorem take_filter {α : Type} {l : List α} {f : α → Bool} {i : Nat} {x : α} (h : l[i]? = some x) : (l.take (i + 1)).filter f = (l.take i).filter f ++ (if f x = true then [x] else []) := by
  rw [take_succ h, List.filter_append]
  by_cases c : f x = true
  · rw [if_pos c, List.filter_cons_of_pos c]; rfl
  · rw [if_neg c, List.filter_cons_of_neg c]; rfl
theorem Nd.times_small {n : Nd} (h : NdOk n) : 1 ≤ n.times ∧ n.times ≤ 6 := by
  cases n with
  | job => exact ⟨(by decide : (1 : Int) ≤ 1), (by decide : (1 : Int) ≤ 6)⟩
  | whole k ps => exact KdOk.times h
section
variable {P : Program} {w : World} {K : PySem.W.Frag} {mg : Str → Option Value} {base : Heap}
def spCount (K : PySem.W.Frag) : Sp := fun vs H Q _ => ∃ (v : V) (N : List Nd), vs = [v] ∧ PlanAt K H v N ∧ N.length ≤ 40 ∧ ∀ (H' : Hp), Same H H' → Q (.int ((N.filter isJob).length : Nat)) H'
theorem scJobCount : FnScope ["plan", "node"] ["plan"] (defScope sJobCount) := ⟨rfl, rfl, rfl, by decide +kernel, rfl, by decide +kernel, by decide +kernel⟩
theorem ok_count {f : Addr} {fd : FuncData} (F : Fun K "job_count" "job_count" sJobCount f fd) (M : NamesP mg) : FnOk P w K mg base CX0 1 f fd ["plan"] (spCount K) := by
  refine F.ok scJobCount (fun vs H Q E h => ?_) (fun cdv A outer s H vs Q E hr h => ?_)
  · obtain ⟨v, N, rfl, _⟩ := h
    rfl
  · obtain ⟨v, N, rfl, ⟨a, vs, rfl, sq, nv⟩, l40, q⟩ := h
    have nd := scJobCount.nd
    refine ⟨_, (pss_one (ps_ret (pe_callB call_len_seq (by rfl) M.len PySem.boot_len (pa_cons (pe_lc (own := [("node", 1)]) (g := (gName 1)) rfl nd (pi_tup (pv 0)) (blkOk_by (N := ["plan", "node"]) (sc := (defScope sJobCount)) (by decide +kernel)) (fun _ _ _ _ _ => (pg_name (i := 1) nd rfl (Or.inl rfl))) (fun _ _ _ _ _ => (pts_one (pt_cmpR op_eq (pe_ix (ix_tupK (K := K) rfl) (pv 1) pe_int (fun _ _ => rfl)) pe_str (nomark _)))) (fun _ _ _ _ _ => (pv 1))) pa_nil)))), ?_⟩
    refine ⟨_, rfl, a, rfl, ⟨vs, sq⟩, fun D nD => ?_⟩
    refine lc_tup (xs := vs) (fun j H' => Same H H' ∧ ∃ acc, H' D = some (.lst acc) ∧ acc.length = ((N.take j).filter isJob).length)
      ⟨same_new nD, [], upd_same, rfl⟩ (fun j H' _ h => (Tp.same h.1).seq sq) ?_ ?_
    · rintro j x H1 hx ⟨S, acc, hD, hl⟩
      have jN : j < N.length := by rw [← nv.len]; exact (List.getElem?_eq_some_iff.mp hx).1
      obtain ⟨u', hu', nu⟩ := nv.at_ j N[j] (List.getElem?_eq_getElem jN)
      cases hx.symm.trans hu'
      have nu := nu.tp (Tp.same S)
      obtain ⟨b, xs, rfl, sb⟩ := nu.head
      have tf := take_filter (f := isJob) (List.getElem?_eq_getElem jN)
      refine ⟨rfl, _, rfl, b, _, _, _, rfl, rfl, sb, atI_head, rfl, ?_⟩
      rw [isJob_word]
      refine ⟨_, rfl, ite2 (fun c => ?_) (fun c => ?_)⟩
      · refine ⟨_, rfl, acc, hD, ?_, same_upd S nD, _, upd_same, ?_⟩
        · rw [hl]
          have h1 := List.length_filter_le isJob (N.take j)
          rw [List.length_take] at h1
          exact small_line (by omega)
        · rw [tf, if_pos c, List.length_append, List.length_append, hl]
          rfl
      · refine ⟨S, acc, hD, ?_⟩
        rw [tf, if_neg c, List.append_nil]
        exact hl
    · rintro H1 ⟨S, acc, hD, hl⟩
      refine ⟨D, acc, rfl, .inl (SqL.of hD), ?_⟩
      rw [hl, nv.len, List.take_length]
      exact q H1 S
def spRuns (K : PySem.W.Frag) : Sp := fun vs H Q _ => ∃ (v : V) (N : List Nd) (R : List Row) (r : Row), vs = [v] ∧ PlanAt K H v N ∧ OkN N ∧ rowsOn [] N = R ++ [r] ∧ ∀ (H' : Hp), Same H H' → Q (.int r.runs) H'
theorem scJobRuns : FnScope ["plan", "runs", "node", "part"] ["plan"] (defScope sJobRuns) := ⟨rfl, rfl, rfl, by decide +kernel, rfl, by decide +kernel, by decide +kernel⟩
theorem ok_runs {f fP fT : Addr} {fd fdP fdT : FuncData} (F : Fun K "job_runs" "job_runs" sJobRuns f fd) (M : NamesP mg) (FP : Fun K "parts_of" "parts_of" sParts fP fdP) (mP : mg "parts_of" = some (.ref fP)) (bP : Binds K fdP ["node"] [])
    (FT : Fun K "times_run" "times_run" sTimes fT fdT) (mT : mg "times_run" = some (.ref fT)) (bT : Binds K fdT ["node"] []) :
    FnOk P w K mg base CX0 2 f fd ["plan"] (spRuns K) := by
  have GP : FnOk P w K mg base CX0 1 fP fdP ["node"] (spParts K) := ok_parts FP
  have GT : FnOk P w K mg base CX0 1 fT fdT ["node"] (spTimes K) := ok_times FT
  have kP := FP.kp
  have kT := FT.kp
  refine F.ok scJobRuns (fun vs H Q E h => ?_) (fun cdv A outer s H vs Q E hr h => ?_)
  · obtain ⟨v, N, _, _, rfl, _⟩ := h
    rfl
  · obtain ⟨v, N, R, r, rfl, ⟨a, vs, rfl, sq, nv⟩, ok, eR, q⟩ := h
    have nd := scJobRuns.nd
    have zero : (0 : Nat) ≤ sizeLine := by decide
    refine ⟨_, (pss_cons (ps_set (i := 1) nd rfl (Or.inr rfl) (pe_lst pa_nil))
        (pss_cons (ps_for PassesOwn.never rfl (pi_tup (pv 0)) (pg_name (i := 2) nd rfl (Or.inl rfl)) (pss_one (ps_if (pt_cmpR op_eq (pe_ix ix_tup (pv 2) pe_int (fun _ _ => rfl)) pe_str (nomark _)) (pss_one (ps_expr (pe_bm PySem.F.plainAttrs_list PySem.F.slot_list_append PySem.F.type_list_append mt_append (pv 1) (pa_cons pe_int pa_nil)))) (pss_one (ps_expr (pe_bm PySem.F.plainAttrs_list PySem.F.slot_list_append PySem.F.type_list_append mt_append (pv 1) (pa_cons (pe_op op_mul (pe_call GT (hr.mono (by decide)) rfl mT kT bT .nil pass0 (pa_cons (pv 2) pa_nil)) (pe_callB (cr_sum rfl) (by rfl) M.sum (by decide +kernel) (pa_cons (pe_lc (own := [("part", 3)]) (g := (gName 3)) rfl nd (pi_tup (pe_call GP (hr.mono (by decide)) rfl mP kP bP .nil pass0 (pa_cons (pv 2) pa_nil))) (blkOk_by (N := ["plan", "runs", "node", "part"]) (sc := (defScope sJobRuns)) (by decide +kernel)) (fun _ _ _ _ _ => (pg_name (i := 3) nd rfl (Or.inl rfl))) (fun _ _ _ _ _ => pts_nil) (fun _ _ _ _ _ => (pe_ix (ix_listK (K := K) rfl) (pv 1) (pv 3) (fun _ _ => rfl)))) pa_nil))) pa_nil)))))))
        (pss_one (ps_ret (pe_ix ix_list (pv 1) (pe_un un_neg pe_int) (fun _ _ => rfl)))))), ?_⟩
    refine ⟨zero, fun p np => ?_⟩
    refine ⟨_, rfl, a, rfl, ⟨vs, (Tp.same (same_new np)).seq sq⟩, ?_⟩
    refine for_tup (xs := vs) (fun i σ H' => ∃ (v2 : Option V), σ = [some (.ref a), some (.ref p), v2, none] ∧ Same H H' ∧ H' p = some (.lst (((rowsOn [] (N.take i)).map Row.runs).map V.int)))
      ⟨none, rfl, same_new np, upd_same⟩ (fun i σ H' _ h => ?_) ?_ ?_
    · obtain ⟨_, _, S, _⟩ := h
      exact (Tp.same S).seq sq
    · rintro i u σ H1 hu ⟨v2, rfl, S, hp⟩
      have iN : i < N.length := by rw [← nv.len]; exact (List.getElem?_eq_some_iff.mp hu).1
      obtain ⟨u', hu', nu⟩ := nv.at_ i N[i] (List.getElem?_eq_getElem iN)
      cases hu.symm.trans hu'
      have nu := nu.tp (Tp.same S)
      have len0 : (rowsOn [] (N.take i)).length = i := by rw [rowsOn_length, List.length_take]; simp; omega
      have sl : (((rowsOn [] (N.take i)).map Row.runs).map V.int).length < sizeLine := by
        rw [List.length_map, List.length_map, len0]
        exact small_line (by have := ok.len; omega)
      have fin : ∀ m : Int, m = (rowAt (rowsOn [] (N.take i)) N[i]).runs → HO.lst (((rowsOn [] (N.take i)).map Row.runs).map V.int ++ [V.int m]) = .lst (((rowsOn [] (N.take (i + 1))).map Row.runs).map V.int) := fun m e => by
        rw [rowsOn_take (List.getElem?_eq_getElem iN), List.map_append, List.map_append, e]
        rfl
      obtain ⟨b, xs, rfl, sb⟩ := nu.head
      refine ⟨_, rfl, b, _, _, _, rfl, rfl, sb, atI_head, rfl, _, rfl, ite_str (fun e => ?_) (fun n1 => ?_)⟩
      · refine ⟨_, rfl, .inl ⟨rfl, _, SqL.of hp⟩, p, _, _, rfl, rfl, hp, sl, _, rfl, same_upd S np, ?_⟩
        rw [fin 1 ?_]
        · exact upd_same
        · obtain ⟨_, _, _, _, _, e⟩ := of_job e
          rw [e]
          rfl
      · refine ⟨_, rfl, .inl ⟨rfl, _, SqL.of hp⟩, _, rfl, _, N[i], rfl, nu, ?_⟩
        refine ⟨_, rfl, _, N[i], rfl, nu, fun t H2 S2 sT => ⟨t, rfl, ⟨_, sT⟩, fun D nD => ?_⟩⟩
        have hp2 := S2 _ _ hp
        refine lc_tup (xs := N[i].parts.map V.int) (fun j H' => Same H2 H' ∧ H' D = some (.lst ((N[i].parts.take j).map (fun q => (rowN (rowsOn [] (N.take i)) q).runs) |>.map V.int)))
          ⟨same_new nD, upd_same⟩ (fun j H' _ h => (Tp.same h.1).seq sT) ?_ ?_
        · rintro j x H3 hx ⟨S3, hD⟩
          obtain ⟨q', hq, rfl⟩ := map_at hx
          have hb := ok.bk i _ (List.getElem?_eq_getElem iN) q' (List.mem_of_getElem? hq)
          refine ⟨rfl, _, rfl, _, rfl, p, _, _, _, rfl, rfl, SqL.of (S3 _ _ hp2), (at_map_rows Row.runs hb.1 (by rw [len0]; omega)), _, hD, ?_, same_upd S3 nD, ?_⟩
          · rw [List.length_map, List.length_map, List.length_take]
            have := ok.few _ (List.getElem_mem iN)
            exact small_line (by omega)
          · rw [take_succ hq, List.map_append, List.map_append]
            exact upd_same
        · rintro H3 ⟨S3, hD⟩
          rw [List.length_map, List.take_length] at hD
          have S' := S.trans (S2.trans S3)
          have hp3 := S3 _ _ hp2
          have tm := Nd.times_small (ok.ok _ (List.getElem_mem iN))
          refine ⟨D, _, rfl, SqL.of hD, _, _, rfl, rfl, .inl ⟨by omega, by omega⟩, p, _, _, rfl, rfl, hp3, sl, _, rfl, same_upd S' np, ?_⟩
          rw [fin _ (rowAt_runs _ _ n1).symm]
          exact upd_same
    · rintro σ H1 ⟨v2, rfl, S, hp⟩
      rw [nv.len, List.take_length, eR, List.map_append, List.map_append] at hp
      refine ⟨_, rfl, _, rfl, p, _, _, _, rfl, rfl, SqL.of hp, atI_last _ _, q H1 S⟩
def spLongest (K : PySem.W.Frag) : Sp := fun vs H Q _ => ∃ (v : V) (N : List Nd), vs = [v] ∧ PlanAt K H v N ∧ N.length ≤ 40 ∧ cleans N ≠ [] ∧ ∀ (m : Int) (H' : Hp), m ∈ cleans N → (∀ x ∈ cleans N, x ≤ m) → Same H H' → Q (.int m) H'
theorem scLongest : FnScope ["plan", "node"] ["plan"] (defScope sLongest) := ⟨rfl, rfl, rfl, by decide +kernel, rfl, by decide +kernel, by decide +kernel⟩
theorem ok_longest {f : Addr} {fd : FuncData} (F : Fun K "longest_cleanup" "longest_cleanup" sLongest f fd) (M : NamesP mg) : FnOk P w K mg base CX0 1 f fd ["plan"] (spLongest K) := by
  refine F.ok scLongest (fun vs H Q E h => ?_) (fun cdv A outer s H vs Q E hr h => ?_)
  · obtain ⟨v, N, rfl, _⟩ := h
    rfl
  · obtain ⟨v, N, rfl, ⟨a, vs, rfl, sq, nv⟩, l40, ne, q⟩ := h
    have nd := scLongest.nd
    refine ⟨_, (pss_one (ps_ret (pe_callB (cr_max rfl) (by rfl) M.max (by decide +kernel) (pa_cons (pe_lc (own := [("node", 1)]) (g := (gName 1)) rfl nd (pi_tup (pv 0)) (blkOk_by (N := ["plan", "node"]) (sc := (defScope sLongest)) (by decide +kernel)) (fun _ _ _ _ _ => (pg_name (i := 1) nd rfl (Or.inl rfl))) (fun _ _ _ _ _ => (pts_one (pt_cmpR op_eq (pe_ix (ix_tupK (K := K) rfl) (pv 1) pe_int (fun _ _ => rfl)) pe_str (nomark _)))) (fun _ _ _ _ _ => (pe_ix (ix_tupK (K := K) rfl) (pv 1) pe_int (fun _ _ => rfl)))) pa_nil)))), ?_⟩
    refine ⟨_, rfl, a, rfl, ⟨vs, sq⟩, fun D nD => ?_⟩
    refine lc_tup (xs := vs) (fun j H' => Same H H' ∧ H' D = some (.lst ((cleans (N.take j)).map V.int)))
      ⟨same_new nD, upd_same⟩ (fun j H' _ h => (Tp.same h.1).seq sq) ?_ ?_
    · rintro j x H1 hx ⟨S, hD⟩
      have jN : j < N.length := by rw [← nv.len]; exact (List.getElem?_eq_some_iff.mp hx).1
      obtain ⟨u', hu', nu⟩ := nv.at_ j N[j] (List.getElem?_eq_getElem jN)
      cases hx.symm.trans hu'
      have nu := nu.tp (Tp.same S)
      obtain ⟨b, xs, rfl, sb⟩ := nu.head
      have tf : cleans (N.take (j + 1)) = cleans (N.take j) ++ cleans [N[j]] := by
        unfold cleans
        rw [take_succ (List.getElem?_eq_getElem jN), List.filterMap_append]
      refine ⟨rfl, _, rfl, b, _, _, _, rfl, rfl, sb, atI_head, rfl, ?_⟩
      rw [isJob_word]
      refine ⟨_, rfl, ite2 (fun c => ?_) (fun c => ?_)⟩
      · obtain ⟨d, g, v, cl, fo, e⟩ : ∃ d g v cl fo, N[j] = .job d g v cl fo := by
          cases hn : N[j] with
          | job d g v cl fo => exact ⟨d, g, v, cl, fo, rfl⟩
          | whole k ps => rw [hn] at c; cases c
        rw [e] at nu tf
        obtain ⟨b', e2, sb'⟩ := nu
        cases e2
        refine ⟨_, rfl, b, _, _, _, rfl, rfl, sb', rfl, _, hD, ?_, same_upd S nD, ?_⟩
        · rw [List.length_map]
          have h1 := List.length_filterMap_le Nd.clean? (N.take j)
          rw [List.length_take] at h1
          exact small_line (by unfold cleans; omega)
        · rw [tf, List.map_append]
          exact upd_same
      · refine ⟨S, ?_⟩
        have e : cleans [N[j]] = [] := by
          cases hn : N[j] with
          | job d g v cl fo => rw [hn] at c; exact absurd rfl c
          | whole k ps => rfl
        rw [tf, e, List.append_nil]
        exact hD
    · rintro H1 ⟨S, hD⟩
      rw [nv.len, List.take_length] at hD
      exact ⟨D, _, rfl, SqL.of hD, List.length_pos_iff.mpr ne, fun m hm hx => q m H1 hm hx S⟩
end
end LB

set_option maxRecDepth 100000
set_option maxHeartbeats 8000000
namespace LB
open PySem PySem.Spec PyProof.Rows L2
/-! ### rows of sizes as values -/
structure RowsAt (K : PySem.W.Frag) (H : Hp) (vs : List V) (rs : List Row) : Prop where
  len : vs.length = rs.length
  at_ : ∀ (i : Nat) (r : Row), rs[i]? = some r → ∃ a : Addr, vs[i]? = some (.ref a) ∧ SqT K H a [.int r.deep, .int r.runs, .int r.clean]
theorem RowsAt.nil {K : PySem.W.Frag} {H : Hp} : RowsAt K H [] [] := ⟨rfl, fun i n h => by simp at h⟩
theorem RowsAt.tp {K : PySem.W.Frag} {H H' : Hp} {vs : List V} {ns : List Row} (x : Tp H H') (h : RowsAt K H vs ns) : RowsAt K H' vs ns := ⟨h.len, fun i n q => let ⟨v, e, r⟩ := h.at_ i n q; ⟨v, e, x.seq r⟩⟩
theorem RowsAt.more {K : PySem.W.Frag} {H : Hp} {vs : List V} {ns : List Row} {a : Addr} {n : Row} (h : RowsAt K H vs ns) (r : SqT K H a [.int n.deep, .int n.runs, .int n.clean]) : RowsAt K H (vs ++ [.ref a]) (ns ++ [n]) := by
  have hl := h.len
  refine ⟨by simp [hl], fun i m q => ?_⟩
  by_cases c : i < ns.length
  · rw [List.getElem?_append_left c] at q
    obtain ⟨u, e, z⟩ := h.at_ i m q
    exact ⟨u, by rw [List.getElem?_append_left (by omega)]; exact e, z⟩
  · rw [List.getElem?_append_right (by omega)] at q
    have c2 : i = ns.length := by
      by_cases c3 : i - ns.length = 0
      · omega
      · rw [List.getElem?_eq_none (by simp; omega)] at q
        cases q
    subst c2
    have e : n = m := by simpa using q
    subst e
    exact ⟨a, by rw [← hl, List.getElem?_append_right (Nat.le_refl _)]; simp, r⟩
theorem RowsAt.get {K : PySem.W.Frag} {H : Hp} {vs : List V} {rs : List Row} (h : RowsAt K H vs rs) {q : Int} (h0 : 0 ≤ q) (h1 : q < (rs.length : Int)) : ∃ a : Addr, atI vs q = some (.ref a) ∧ SqT K H a [.int (rowN rs q).deep, .int (rowN rs q).runs, .int (rowN rs q).clean] := by
  obtain ⟨j, rfl⟩ : ∃ j : Nat, q = (j : Int) := ⟨q.toNat, by omega⟩
  have e := (rowN_mem h0 h1).2
  rw [Int.toNat_natCast] at e
  obtain ⟨a, ea, sq⟩ := h.at_ j _ e
  exact ⟨a, atI_nat ea, sq⟩
def c0 : Nd → Int
  | .job _ _ _ c _ => c
  | .whole .. => 0
def r0 : Nd → Int
  | .job .. => 1
  | .whole .. => 0
theorem clean_nn : ∀ (ns : List Nd) (rs : List Row), (∀ n ∈ ns, NdOk n) → (∀ r ∈ rs, 0 ≤ r.clean) → ∀ r ∈ rowsOn rs ns, 0 ≤ r.clean
  | [], rs, _, h => h
  | n :: t, rs, ok, h => by
    refine clean_nn t (rs ++ [rowAt rs n]) (fun m hm => ok m (List.mem_cons_of_mem _ hm)) fun r hr => ?_
    rcases List.mem_append.mp hr with q | q
    · exact h r q
    · rw [List.mem_singleton.mp q]
      have o := ok n (List.mem_cons_self ..)
      cases n with
      | job d g v c f => exact o.2.2.1.1
      | whole k ps => exact maxI_nn _
theorem rowAt_clean (rs : List Row) {n : Nd} (h : NdOk n) : (rowAt rs n).clean = max (c0 n) (maxI (n.parts.map fun q => (rowN rs q).clean)) := by
  cases n with
  | job d g v c f =>
    have h1 : 0 ≤ c := h.2.2.1.1
    show c = max c 0
    omega
  | whole k ps =>
    have h1 := maxI_nn (ps.map fun q => (rowN rs q).clean)
    show maxI _ = max 0 (maxI (ps.map fun q => (rowN rs q).clean))
    omega
theorem max_if (i j : Int) : (if j > i then j else i) = max i j := by
  split <;> omega
theorem maxI_snoc {l : List Int} {x : Int} (h : 0 ≤ x) : maxI (l ++ [x]) = max (maxI l) x := by rw [maxI_app, maxI_one h]
section
variable {P : Program} {w : World} {K : PySem.W.Frag} {mg : Str → Option Value} {base : Heap}
def spSizes (K : PySem.W.Frag) : Sp := fun vs H Q _ => ∃ (v : V) (N : List Nd), vs = [v] ∧ PlanAt K H v N ∧ OkN N ∧ ∀ (p : Addr) (vs : List V) (H' : Hp), Same H H' → H' p = some (.lst vs) → RowsAt K H' vs (rowsOn [] N) → Q (.ref p) H'
theorem scLSizes : FnScope ["plan", "rows", "node", "deep", "runs", "clean", "part"] ["plan"] (defScope sLSizes) := ⟨rfl, rfl, rfl, by decide +kernel, rfl, by decide +kernel, by decide +kernel⟩
theorem ok_sizes {f fP : Addr} {fd fdP : FuncData} (F : Fun K "_law_sizes" "_law_sizes" sLSizes f fd) (M : NamesP mg) (FP : Fun K "_law_parts" "_law_parts" sLParts fP fdP) (mP : mg "_law_parts" = some (.ref fP)) (bP : Binds K fdP ["node"] []) :
    FnOk P w K mg base CX0 2 f fd ["plan"] (spSizes K) := by
  have GP : FnOk P w K mg base CX0 1 fP fdP ["node"] (spParts K) := ok_lparts FP
  have kP := FP.kp
  refine F.ok scLSizes (fun vs H Q E h => ?_) (fun cdv A outer s H vs Q E hr h => ?_)
  · obtain ⟨v, N, rfl, _⟩ := h
    rfl
  · obtain ⟨v, N, rfl, ⟨a, vs, rfl, sq, nv⟩, ok, q⟩ := h
    have nd := scLSizes.nd
    have zero : (0 : Nat) ≤ sizeLine := by decide
    have three : (3 : Nat) ≤ sizeLine := by decide
    refine ⟨_, (pss_cons (ps_set (i := 1) nd rfl (Or.inl rfl) (pe_lst pa_nil))
        (pss_cons (ps_for PassesOwn.never rfl (pi_tup (pv 0)) (pg_name (i := 2) nd rfl (Or.inl rfl)) (pss_cons (ps_set (i := 3) nd rfl (Or.inl rfl) pe_int)
        (pss_cons (ps_set (i := 4) nd rfl (Or.inl rfl) (pe_callTy call_int1 (by rfl) M.int (by decide +kernel) (pa_cons (pe_cmpR op_eq (pe_ix ix_tup (pv 2) pe_int (fun _ _ => rfl)) pe_str (nomark _)) pa_nil)))
        (pss_cons (ps_set (i := 5) nd rfl (Or.inl rfl) pe_int)
        (C8.pss_cut (ps_if (pt_cmpR op_eq (pe_ix ix_tup (pv 2) pe_int (fun _ _ => rfl)) pe_str (nomark _)) (pss_one (ps_set (i := 5) nd rfl (Or.inl rfl) (pe_ix ix_tup (pv 2) pe_int (fun _ _ => rfl)))) pss_nil)
        (pss_cons (ps_for PassesOwn.never rfl (pi_tup (pe_call GP (hr.mono (by decide)) rfl mP kP bP .nil pass0 (pa_cons (pv 2) pa_nil))) (pg_name (i := 6) nd rfl (Or.inl rfl)) (pss_cons (ps_set (i := 3) nd rfl (Or.inl rfl) (pe_callB (call_max2 rfl) (by rfl) M.max (by decide +kernel) (pa_cons (pv 3) (pa_cons (pe_op op_add (pe_ix ix_tup (pe_ix ix_list (pv 1) (pv 6) (fun _ _ => rfl)) pe_int (fun _ _ => rfl)) pe_int) pa_nil))))
        (pss_cons (ps_set (i := 4) nd rfl (Or.inl rfl) (pe_op op_add (pv 4) (pe_ix ix_tup (pe_ix ix_list (pv 1) (pv 6) (fun _ _ => rfl)) pe_int (fun _ _ => rfl))))
        (pss_one (ps_set (i := 5) nd rfl (Or.inl rfl) (pe_callB (call_max2 rfl) (by rfl) M.max (by decide +kernel) (pa_cons (pv 5) (pa_cons (pe_ix ix_tup (pe_ix ix_list (pv 1) (pv 6) (fun _ _ => rfl)) pe_int (fun _ _ => rfl)) pa_nil))))))))
        (C8.pss_cut (ps_if (pt_cmpR op_eq (pe_ix ix_tup (pv 2) pe_int (fun _ _ => rfl)) pe_str (nomark _)) (pss_one (ps_set (i := 4) nd rfl (Or.inl rfl) (pe_op op_mul (pv 4) (pe_op op_add (pe_ix ix_tup (pv 2) pe_int (fun _ _ => rfl)) pe_int)))) pss_nil)
        (pss_one (ps_expr (pe_bm PySem.F.plainAttrs_list PySem.F.slot_list_append PySem.F.type_list_append mt_append (pv 1) (pa_cons (pe_tup (pa_cons (pv 3) (pa_cons (pv 4) (pa_cons (pv 5) pa_nil)))) pa_nil)))))))))))
        (pss_one (ps_ret (pv 1))))), ?_⟩
    refine ⟨zero, fun p np => ?_⟩
    refine ⟨_, rfl, a, rfl, ⟨vs, (Tp.same (same_new np)).seq sq⟩, ?_⟩
    refine for_tup (xs := vs) (fun i σ H' => ∃ (v2 v3 v4 v5 v6 : Option V) (us : List V), σ = [some (.ref a), some (.ref p), v2, v3, v4, v5, v6] ∧ Same H H' ∧ H' p = some (.lst us) ∧ RowsAt K H' us (rowsOn [] (N.take i)))
      ⟨none, none, none, none, none, [], rfl, same_new np, upd_same, .nil⟩ (fun i σ H' _ h => ?_) ?_ ?_
    · obtain ⟨_, _, _, _, _, _, _, S, _⟩ := h
      exact (Tp.same S).seq sq
    · rintro i u σ H1 hu ⟨v2, v3, v4, v5, v6, us, rfl, S, hp, ra⟩
      have iN : i < N.length := by rw [← nv.len]; exact (List.getElem?_eq_some_iff.mp hu).1
      obtain ⟨u', hu', nu⟩ := nv.at_ i N[i] (List.getElem?_eq_getElem iN)
      cases hu.symm.trans hu'
      have nu := nu.tp (Tp.same S)
      have okn := ok.ok _ (List.getElem_mem iN)
      have len0 : (rowsOn [] (N.take i)).length = i := by rw [rowsOn_length, List.length_take]; simp; omega
      have bk := ok.bk i _ (List.getElem?_eq_getElem iN)
      have tN := rowsOn_take (List.getElem?_eq_getElem iN)
      have dpos := deep_pos (N.take i) [] (fun _ h => nomatch h)
      have cpos := clean_nn (N.take i) [] (fun n hn => ok.ok n (List.mem_of_mem_take hn)) (fun _ h => nomatch h)
      generalize rowsOn [] (N.take i) = R at ra len0 tN dpos cpos
      generalize N[i] = n at nu okn bk tN
      obtain ⟨b, xs, rfl, sb⟩ := nu.head
      have er : (if isJob n = true then (1 : Int) else 0) = r0 n := by cases n <;> rfl
      have c00 : 0 ≤ c0 n := by
        cases n with
        | job d g v c f => exact okn.2.2.1.1
        | whole k ps => exact Int.le_refl 0
      refine ⟨_, rfl, b, _, _, _, rfl, rfl, sb, atI_head, rfl, ?_⟩
      rw [isJob_word]
      refine .inr ⟨_, rfl, ?_⟩
      rw [er]
      refine ⟨fun σ H' => σ = [some (.ref a), some (.ref p), some (.ref b), some (.int 1), some (.int (r0 n)), some (.int (c0 n)), v6] ∧ H' = H1, ?_, ?_⟩
      · refine ⟨_, rfl, b, _, _, _, rfl, rfl, sb, atI_head, rfl, _, rfl, ite_str (fun e => ?_) (fun e => ?_)⟩
        · obtain ⟨d, g, v, cl, fo, rfl⟩ := of_job e
          obtain ⟨b', e2, sb'⟩ := nu
          cases e2
          exact ⟨_, rfl, b, _, _, _, rfl, rfl, sb', rfl, rfl, rfl⟩
        · cases n with
          | job d g v c f => exact absurd rfl e
          | whole k ps => exact ⟨rfl, rfl⟩
      rintro σ H1' ⟨rfl, rfl⟩
      refine ⟨_, rfl, .ref b, n, rfl, nu, fun t H2 S2 sT => ⟨t, rfl, ⟨_, sT⟩, ?_⟩⟩
      have hp2 := S2 _ _ hp
      have ra2 := ra.tp (Tp.same S2)
      refine for_tup (xs := n.parts.map V.int) (fun j σ H' => ∃ v6, σ = [some (.ref a), some (.ref p), some (.ref b), some (.int (1 + maxI ((n.parts.take j).map fun q => (rowN R q).deep))), some (.int (r0 n + ((n.parts.take j).map fun q => (rowN R q).runs).sum)),
          some (.int (max (c0 n) (maxI ((n.parts.take j).map fun q => (rowN R q).clean)))), v6] ∧ H' = H2) ⟨v6, ?_, rfl⟩ (fun j σ H' _ h => ?_) ?_ ?_
      · show _ = [some (.ref a), some (.ref p), some (.ref b), some (.int (1 + 0)), some (.int (r0 n + 0)), some (.int (max (c0 n) 0)), v6]
        rw [Int.add_zero, Int.add_zero, Int.max_eq_left c00]
      · obtain ⟨_, _, rfl⟩ := h
        exact sT
      · rintro j x σ H3 hx ⟨v6, rfl, rfl⟩
        obtain ⟨q', hq, rfl⟩ := map_at hx
        have hb := bk q' (List.mem_of_getElem? hq)
        have hb1 : q' < (R.length : Int) := by rw [len0]; omega
        obtain ⟨rad, ha, sra⟩ := ra2.get hb.1 hb1
        have hm := (rowN_mem hb.1 hb1).1
        have d1 := dpos _ hm
        have cc1 := cpos _ hm
        refine ⟨_, rfl, _, rfl, _, rfl, p, _, _, _, rfl, rfl, SqL.of hp2, ha, rad, _, _, _, rfl, rfl, sra, rfl, _, _, rfl, rfl, _, _, rfl, ?_⟩
        refine ⟨_, rfl, _, rfl, _, rfl, p, _, _, _, rfl, rfl, SqL.of hp2, ha, rad, _, _, _, rfl, rfl, sra, rfl, _, _, rfl, rfl, ?_⟩
        refine ⟨_, rfl, _, rfl, _, rfl, p, _, _, _, rfl, rfl, SqL.of hp2, ha, rad, _, _, _, rfl, rfl, sra, rfl, _, _, rfl, ?_⟩
        refine ⟨some (.int q'), ?_, rfl⟩
        rw [take_succ hq, List.map_append, List.map_append, List.map_append, max_if, max_if]
        show [some (V.ref a), some (.ref p), some (.ref b), some (.int (max (1 + maxI ((n.parts.take j).map fun q => (rowN R q).deep)) ((rowN R q').deep + 1))), some (.int (r0 n + ((n.parts.take j).map fun q => (rowN R q).runs).sum + (rowN R q').runs)),
          some (.int (max (max (c0 n) (maxI ((n.parts.take j).map fun q => (rowN R q).clean))) (rowN R q').clean)), some (.int q')] =
          [some (V.ref a), some (.ref p), some (.ref b), some (.int (1 + maxI ((n.parts.take j).map (fun q => (rowN R q).deep) ++ [(rowN R q').deep]))), some (.int (r0 n + ((n.parts.take j).map (fun q => (rowN R q).runs) ++ [(rowN R q').runs]).sum)),
          some (.int (max (c0 n) (maxI ((n.parts.take j).map (fun q => (rowN R q).clean) ++ [(rowN R q').clean])))), some (.int q')]
        rw [maxI_snoc (by omega), maxI_snoc cc1, List.sum_append, List.sum_singleton, Int.add_assoc, Int.max_assoc]
        rw [show max (1 + maxI ((n.parts.take j).map fun q => (rowN R q).deep)) ((rowN R q').deep + 1) = 1 + max (maxI ((n.parts.take j).map fun q => (rowN R q).deep)) (rowN R q').deep by omega]
      · rintro σ H3 ⟨v6, rfl, rfl⟩
        rw [List.length_map, List.take_length, ← rowAt_deep, ← rowAt_clean R okn]
        refine ⟨fun σ H' => σ = [some (.ref a), some (.ref p), some (.ref b), some (.int (rowAt R n).deep), some (.int (rowAt R n).runs), some (.int (rowAt R n).clean), v6] ∧ H' = H3, ?_, ?_⟩
        · have nu2 := nu.tp (Tp.same S2)
          have sb2 := (Tp.same S2).seq sb
          refine ⟨_, rfl, b, _, _, _, rfl, rfl, sb2, atI_head, rfl, _, rfl, ite_str (fun e => ?_) (fun e => ?_)⟩
          · obtain ⟨b', i', r, d, rfl, e2, sb'⟩ := of_retry e nu2
            cases e2
            have ts : 0 ≤ r ∧ r ≤ 5 := ⟨okn.2.1, okn.2.2.1⟩
            refine ⟨_, rfl, _, rfl, b, _, _, _, rfl, rfl, sb', rfl, _, _, rfl, rfl, _, _, rfl, rfl, .inr ⟨by omega, by omega⟩, ?_, rfl⟩
            show [some (V.ref a), some (.ref p), some (.ref b), some (.int (rowAt R (.whole (.retry r d) [i'])).deep), some (.int ((0 + ([i'].map fun q => (rowN R q).runs).sum) * (r + 1))), some (.int (rowAt R (.whole (.retry r d) [i'])).clean), v6] = _
            rw [Int.zero_add, Int.mul_comm]
            rfl
          · refine ⟨?_, rfl⟩
            have e3 : r0 n + (n.parts.map fun q => (rowN R q).runs).sum = (rowAt R n).runs := by
              by_cases ej : n.word = "job"
              · obtain ⟨d, g, v, cl, fo, rfl⟩ := of_job ej
                rfl
              · rw [rowAt_runs R n ej, Nd.times_else e, Int.one_mul]
                cases n with
                | job d g v c f => exact absurd rfl ej
                | whole k ps => exact Int.zero_add _
            rw [e3]
        rintro σ H3' ⟨rfl, rfl⟩
        refine ⟨_, rfl, .inl ⟨rfl, _, SqL.of hp2⟩, _, rfl, _, rfl, _, rfl, three, fun t nt => ?_⟩
        have S3 := same_new (o := .tup [V.int (rowAt R n).deep, .int (rowAt R n).runs, .int (rowAt R n).clean]) nt
        have hp3 := S3 _ _ hp2
        have tp := Tp.lst (o := .lst (us ++ [V.ref t])) hp3
        refine ⟨p, us, _, rfl, rfl, hp3, ?_, ?_⟩
        · rw [ra.len, len0]
          exact small_line (by have := ok.len; omega)
        · refine ⟨_, _, _, _, _, us ++ [.ref t], rfl, same_upd ((S.trans S2).trans S3) np, upd_same, ?_⟩
          rw [tN]
          exact ((ra2.tp (Tp.same S3)).tp tp).more (tp.seq (SqT.of upd_same))
    · rintro σ H1 ⟨v2, v3, v4, v5, v6, us, rfl, S, hp, ra⟩
      rw [nv.len, List.take_length] at ra
      exact ⟨_, rfl, q p us H1 S hp ra⟩
end
end LB

set_option maxRecDepth 100000
set_option maxHeartbeats 8000000
namespace LB
open PySem PySem.Spec PyProof.Rows L2
/-! ### data of small ints -/
theorem sm_ints : ∀ {ns : List Int}, (∀ x ∈ ns, Sm x) → PyData.showableAll (ns.map PyData.int) = true ∧ PyData.hasDictAll (ns.map PyData.int) = false ∧ PyData.depthAll (ns.map PyData.int) = 0 ∧ PyData.leavesShortAll 13 (ns.map PyData.int) = true ∧ PyData.bulkAll (ns.map PyData.int) ≤ ns.length
  | [], _ => ⟨rfl, rfl, rfl, rfl, Nat.le_refl _⟩
  | n :: r, h => by
    obtain ⟨h1, h2, h3, h4, h5⟩ := sm_ints fun x hx => h x (List.mem_cons_of_mem _ hx)
    have hn := h n (List.mem_cons_self ..)
    refine ⟨?_, ?_, ?_, ?_, ?_⟩
    · show (PyData.showable (.int n) && PyData.showableAll (r.map PyData.int)) = true
      rw [h1, show PyData.showable (.int n) = true from decide_eq_true (log_small hn)] <;> rfl
    · show (false || PyData.hasDictAll (r.map PyData.int)) = false
      rw [h2] <;> rfl
    · show max 0 (PyData.depthAll (r.map PyData.int)) = 0
      rw [h3] <;> rfl
    · show (PyData.leavesShort 13 (.int n) && PyData.leavesShortAll 13 (r.map PyData.int)) = true
      rw [h4, show PyData.leavesShort 13 (.int n) = true from decide_eq_true (leaf_small hn)] <;> rfl
    · show 0 + 1 + PyData.bulkAll (r.map PyData.int) ≤ r.length + 1
      omega
theorem short_list {ns : List Int} (h : ∀ x ∈ ns, Sm x) (hl : ns.length ≤ 4000) : Short (.list (ns.map PyData.int)) := by
  obtain ⟨h1, h2, h3, h4, h5⟩ := sm_ints h
  refine .of h1 h2 ?_ h4 ?_
  · show PyData.depthAll (ns.map PyData.int) + 1 ≤ 50
    omega
  · show PyData.bulkAll (ns.map PyData.int) ≤ 2 ^ 20
    omega
theorem short_tup {ns : List Int} (h : ∀ x ∈ ns, Sm x) (hl : ns.length ≤ 4000) : Short (.tuple (ns.map PyData.int)) := by
  obtain ⟨h1, h2, h3, h4, h5⟩ := sm_ints h
  refine .of h1 h2 ?_ h4 ?_
  · show PyData.depthAll (ns.map PyData.int) + 1 ≤ 50
    omega
  · show PyData.bulkAll (ns.map PyData.int) ≤ 2 ^ 20
    omega
theorem all_ints {K : PySem.W.Frag} {H : Hp} : ∀ {ns : List Int}, DpAll K H (ns.map V.int) (ns.map PyData.int)
  | [] => .nil
  | n :: r => .cons (.int n) all_ints
theorem atI_end {α : Type} {us : List α} {n : Nat} {x : α} (hl : us.length = n + 1) (h : us[n]? = some x) : atI us (-1) = some x := by
  have e := take_succ h
  rw [List.take_of_length_le (by omega)] at e
  rw [e]
  exact atI_last _ _
mutual
theorem runs_pos : ∀ (p : Pl), OkP p → 1 ≤ p.runs
  | .job d g v c f, _ => by rw [Pl.runs]; decide
  | .node k ps, h => by
    cases h with
    | node hk h =>
      have h1 := runsL_pos ps h
      have h2 := KdOk.times hk
      have h3 : 1 ≤ (Pl.runsL ps).sum := sum_pos h1 (fun e => by
        rw [runsL_map] at e
        have e := List.map_eq_nil_iff.mp e
        rw [e] at hk
        have := hk.pos
        simp at this)
      rw [Pl.runs]
      have := Int.mul_le_mul h2.1 h3 (by decide) (by omega)
      simpa using this
theorem runsL_pos : ∀ (ps : List Pl), (∀ p ∈ ps, OkP p) → ∀ x ∈ Pl.runsL ps, 1 ≤ x
  | [], _, x, hx => by simp [Pl.runsL] at hx
  | p :: r, h, x, hx => by
    rw [Pl.runsL] at hx
    rcases List.mem_cons.mp hx with e | hx
    · rw [e]; exact runs_pos p (h p (List.mem_cons_self ..))
    · exact runsL_pos r (fun q hq => h q (List.mem_cons_of_mem _ hq)) x hx
end
theorem rows_snoc (p : Pl) : ∃ R, p.rows = R ++ [p.row] ∧ R.length + 1 = p.size := by
  cases p with
  | job d g v c f => exact ⟨[], by simp [Pl.rows], by simp [Pl.size]⟩
  | node k ps => exact ⟨Pl.rowsL ps, by simp [Pl.rows], by rw [rowsL_length]; simp [Pl.size]⟩
def spLaw (K : PySem.W.Frag) : Sp := fun vs H Q _ => ∃ (a : Addr) (ns : List Int), vs = [.ref a] ∧ SqL K H a (ns.map V.int) ∧ ∀ H', Q (.bl true) H'
/-- the defs that law calls, as they stand -/
structure Defs (K : PySem.W.Frag) (mg : Str → Option Value) (base : Heap) (P : Program) (w : World) : Prop where
  G : ∃ f fd, FnOk P w K mg base CX0 2 f fd ["script", "first", "last"] (spDigits K) ∧ mg "_law_digits" = some (.ref f) ∧ PySem.W.keepIn K (.ref f) = true ∧ Binds K fd ["script", "first", "last"] []
  Pl : ∃ f fd, FnOk P w K mg base CX0 3 f fd ["box", "jobs"] (spPlan K) ∧ mg "_law_plan" = some (.ref f) ∧ PySem.W.keepIn K (.ref f) = true ∧ Binds K fd ["box", "jobs"] []
  S : ∃ f fd, FnOk P w K mg base CX0 2 f fd ["plan"] (spSizes K) ∧ mg "_law_sizes" = some (.ref f) ∧ PySem.W.keepIn K (.ref f) = true ∧ Binds K fd ["plan"] []
  A : ∃ f fd, FnG P w K mg base CX0 1 f fd ["one", "two"] (spAlike K) ∧ mg "_law_alike" = some (.ref f) ∧ PySem.W.keepIn K (.ref f) = true ∧ Binds K fd ["one", "two"] []
  D : ∃ f fd, FnOk P w K mg base CX0 2 f fd ["plan"] (spDepths K) ∧ mg "depths" = some (.ref f) ∧ PySem.W.keepIn K (.ref f) = true ∧ Binds K fd ["plan"] []
  C : ∃ f fd, FnOk P w K mg base CX0 1 f fd ["plan"] (spCount K) ∧ mg "job_count" = some (.ref f) ∧ PySem.W.keepIn K (.ref f) = true ∧ Binds K fd ["plan"] []
  R : ∃ f fd, FnOk P w K mg base CX0 2 f fd ["plan"] (spRuns K) ∧ mg "job_runs" = some (.ref f) ∧ PySem.W.keepIn K (.ref f) = true ∧ Binds K fd ["plan"] []
  L : ∃ f fd, FnOk P w K mg base CX0 1 f fd ["plan"] (spLongest K) ∧ mg "longest_cleanup" = some (.ref f) ∧ PySem.W.keepIn K (.ref f) = true ∧ Binds K fd ["plan"] []
  names : NamesP mg
section
variable {P : Program} {w : World} {K : PySem.W.Frag} {mg : Str → Option Value} {base : Heap}
theorem scLaw : FnScope ["script", "box", "turn", "plan", "sizes", "jobs", "row", "node"] ["script"] (defScope sLaw) := ⟨rfl, rfl, rfl, by decide +kernel, rfl, by decide +kernel, by decide +kernel⟩
theorem ok_law {f : Addr} {fd : FuncData} (F : Fun K "law" "law" sLaw f fd) (T : Defs K mg base P w) : FnG P w K mg base CX0 4 f fd ["script"] (spLaw K) := by
  obtain ⟨_, _, GG, mG, kG, bG⟩ := T.G
  obtain ⟨_, _, GP, mP, kP, bP⟩ := T.Pl
  obtain ⟨_, _, GS, mS, kS, bS⟩ := T.S
  obtain ⟨_, _, GA, mA, kA, bA⟩ := T.A
  obtain ⟨_, _, GD, mD, kD, bD⟩ := T.D
  obtain ⟨_, _, GC, mC, kC, bC⟩ := T.C
  obtain ⟨_, _, GR, mR, kR, bR⟩ := T.R
  obtain ⟨_, _, GL, mL, kL, bL⟩ := T.L
  have M := T.names
  refine FnG.of_fun F scLaw (fun vs H Q E h => ?_) (fun cdv A outer s H vs Q E gf hr h => ?_)
  · obtain ⟨a, ns, rfl, _⟩ := h
    rfl
  · obtain ⟨a, ns, rfl, hS, q⟩ := h
    have nd := scLaw.nd
    have two : (2 : Nat) ≤ sizeLine := by decide
    have three : (3 : Nat) ≤ sizeLine := by decide
    refine ⟨_, (pss_cons (ps_set (i := 1) nd rfl (Or.inl rfl) (pe_lst (pa_cons (pe_call GG (hr.mono (by decide)) rfl mG kG bG .nil pass0 (pa_cons (pv 0) (pa_cons pe_int (pa_cons pe_int pa_nil)))) (pa_cons pe_int pa_nil))))
        (pss_cons (ps_for PassesOwn.never rfl (pi_range1 (by rfl) M.range (pa_cons pe_int pa_nil)) (pg_name (i := 2) nd rfl (Or.inl rfl)) (pss_cons (ps_set (i := 3) nd rfl (Or.inl rfl) (pe_call GP (hr.mono (by decide)) rfl mP kP bP .nil pass0 (pa_cons (pv 1) (pa_cons pe_int pa_nil))))
        (pss_cons (ps_set (i := 4) nd rfl (Or.inl rfl) (pe_call GS (hr.mono (by decide)) rfl mS kS bS .nil pass0 (pa_cons (pv 3) pa_nil)))
        (pss_cons (ps_if (pt_not (pt_val (pe_callF gf GA (hr.mono (by decide)) rfl mA kA bA .nil pass0 (pa_cons (pe_call GD (hr.mono (by decide)) rfl mD kD bD .nil pass0 (pa_cons (pv 3) pa_nil)) (pa_cons (pe_lc (own := [("row", 6)]) (g := (gName 6)) rfl nd (pi_list (pv 4)) (blkOk_by (N := ["script", "box", "turn", "plan", "sizes", "jobs", "row", "node"]) (sc := (defScope sLaw)) (by decide +kernel)) (fun _ _ _ _ _ => (pg_name (i := 6) nd rfl (Or.inl rfl))) (fun _ _ _ _ _ => pts_nil) (fun _ _ _ _ _ => (pe_ix (ix_tupK (K := K) rfl) (pv 6) pe_int (fun _ _ => rfl)))) pa_nil))))) (pss_one (ps_ret pe_bl)) pss_nil)
        (pss_cons (ps_set (i := 5) nd rfl (Or.inl rfl) (pe_callB call_len_seq (by rfl) M.len PySem.boot_len (pa_cons (pe_lc (own := [("node", 7)]) (g := (gName 7)) rfl nd (pi_tup (pv 3)) (blkOk_by (N := ["script", "box", "turn", "plan", "sizes", "jobs", "row", "node"]) (sc := (defScope sLaw)) (by decide +kernel)) (fun _ _ _ _ _ => (pg_name (i := 7) nd rfl (Or.inl rfl))) (fun _ _ _ _ _ => (pts_one (pt_cmpR op_eq (pe_ix (ix_tupK (K := K) rfl) (pv 7) pe_int (fun _ _ => rfl)) pe_str (nomark _)))) (fun _ _ _ _ _ => (pv 7))) pa_nil)))
        (pss_one (ps_if (pt_not (pt_val (pe_callF gf GA (hr.mono (by decide)) rfl mA kA bA .nil pass0 (pa_cons (pe_tup (pa_cons (pe_call GC (hr.mono (by decide)) rfl mC kC bC .nil pass0 (pa_cons (pv 3) pa_nil)) (pa_cons (pe_call GR (hr.mono (by decide)) rfl mR kR bR .nil pass0 (pa_cons (pv 3) pa_nil)) (pa_cons (pe_call GL (hr.mono (by decide)) rfl mL kL bL .nil pass0 (pa_cons (pv 3) pa_nil)) pa_nil)))) (pa_cons (pe_tup (pa_cons (pv 5) (pa_cons (pe_ix ix_tup (pe_ix ix_list (pv 4) (pe_un un_neg pe_int) (fun _ _ => rfl)) pe_int (fun _ _ => rfl)) (pa_cons (pe_ix ix_tup (pe_ix ix_list (pv 4) (pe_un un_neg pe_int) (fun _ _ => rfl)) pe_int (fun _ _ => rfl)) pa_nil)))) pa_nil))))) (pss_one (ps_ret pe_bl)) pss_nil)))))))
        (pss_one (ps_ret pe_bl)))), ?_⟩
    refine ⟨_, rfl, a, ns, 0, 63, rfl, hS, by decide, by decide, by decide, fun ds H1 l s1 nl hl hd hlen => ⟨two, fun b nb => ?_⟩⟩
    have B0 : Box (upd H1 b (.lst [.ref l, .int 0])) b := ⟨l, ds, 0, upd_same, by rw [upd_ne (ne_of_none hl nb)]; exact hl, (ne_of_none hl nb).symm, by decide, hlen⟩
    refine ⟨6, rfl, by decide, by decide, for_range (n := 6) (fun m σ H' => ∃ (v2 v3 v4 v5 : Option V), σ = [some (.ref a), some (.ref b), v2, v3, v4, v5, none, none] ∧ Box H' b)
      ⟨none, none, none, none, rfl, B0⟩ ?_ ?_⟩
    · rintro m σ H0 hm ⟨v2, v3, v4, v5, rfl, B0⟩
      refine ⟨_, rfl, b, 10, rfl, B0, by decide, by decide, fun v p H1 wp B1 U1 pa => ?_⟩
      have ok : OkN (p.flat 0) := ⟨flat_back p 0, flat_ok p 0 wp.ok, by rw [flat_length]; exact wp.size⟩
      have rf := rows_flat p
      have cl := fun {m : Int} => clean_max (p := p) (o := 0) (m := m) wp.ok
      have cb := fun {m : Int} => cleans_bound (p := p) (o := 0) (m := m) wp.ok
      have cn := cleans_ne p 0 wp.ok
      obtain ⟨R, eR, lR⟩ := rows_snoc p
      generalize p.flat 0 = N at pa ok rf cl cb cn
      -- sizes
      refine ⟨_, rfl, v, N, rfl, pa, ok, fun ps us H2 S2 hps ra => ?_⟩
      have pa := pa.tp (Tp.same S2)
      have B2 := B1.same S2
      rw [rf] at ra
      -- depths
      refine ⟨_, rfl, v, N, rfl, pa, ok, fun pd H3 S3 hpd => ?_⟩
      have pa := pa.tp (Tp.same S3)
      have B3 := B2.same S3
      have hps := S3 _ _ hps
      have ra := ra.tp (Tp.same S3)
      rw [rf] at hpd
      refine ⟨_, rfl, ps, rfl, ⟨us, SqL.of hps⟩, fun D nD => ?_⟩
      refine lc_list (xs := us) (fun j H' => Same H3 H' ∧ H' D = some (.lst (((p.rows.take j).map Row.deep).map V.int)))
        ⟨same_new nD, upd_same⟩ (fun j H' _ h => SqL.of (h.1 _ _ hps)) ?_ ?_
      · rintro j x H4 hx ⟨S4, hD⟩
        have jN : j < p.rows.length := by rw [← ra.len]; exact (List.getElem?_eq_some_iff.mp hx).1
        obtain ⟨u', hu', su⟩ := ra.at_ j p.rows[j] (List.getElem?_eq_getElem jN)
        cases hx.symm.trans hu'
        refine ⟨rfl, _, rfl, u', _, _, _, rfl, rfl, (Tp.same S4).seq su, rfl, _, hD, ?_, same_upd S4 nD, ?_⟩
        · rw [List.length_map, List.length_map, List.length_take]
          have := rows_length p
          have := wp.size
          exact small_line (by omega)
        · rw [take_succ (List.getElem?_eq_getElem jN), List.map_append, List.map_append]
          exact upd_same
      rintro H4 ⟨S4, hD⟩
      rw [ra.len, List.take_length] at hD
      have sd : Short (.list ((p.rows.map Row.deep).map PyData.int)) := by
        refine short_list (fun x hx => ?_) ?_
        · obtain ⟨r, hr, e⟩ := List.mem_map.mp hx
          have := rows_deep p r hr
          have := wp.deep
          exact Sm.of (by omega) (by omega)
        · rw [List.length_map, rows_length]
          have := wp.size
          omega
      refine ⟨.ref pd, .ref D, _, rfl, .lst (SqL.of (S4 _ _ hpd)) all_ints, .lst (SqL.of hD) all_ints, sd, _, rfl, iteF ?_⟩
      have pa := pa.tp (Tp.same S4)
      have B4 := B3.same S4
      have hps := S4 _ _ hps
      have ra := ra.tp (Tp.same S4)
      clear hD hpd sd nD D S3 S2
      -- jobs
      obtain ⟨pl, vs, rfl, sq, nv⟩ := pa
      refine ⟨_, rfl, pl, rfl, ⟨vs, sq⟩, fun D nD => ?_⟩
      refine lc_tup (xs := vs) (fun j H' => Same H4 H' ∧ ∃ acc, H' D = some (.lst acc) ∧ acc.length = ((N.take j).filter isJob).length)
        ⟨same_new nD, [], upd_same, rfl⟩ (fun j H' _ h => (Tp.same h.1).seq sq) ?_ ?_
      · rintro j x H5 hx ⟨S, acc, hD, hl⟩
        have jN : j < N.length := by rw [← nv.len]; exact (List.getElem?_eq_some_iff.mp hx).1
        obtain ⟨u', hu', nu⟩ := nv.at_ j N[j] (List.getElem?_eq_getElem jN)
        cases hx.symm.trans hu'
        have nu := nu.tp (Tp.same S)
        obtain ⟨b, xs, rfl, sb⟩ := nu.head
        have tf := take_filter (f := isJob) (List.getElem?_eq_getElem jN)
        refine ⟨rfl, _, rfl, b, _, _, _, rfl, rfl, sb, atI_head, rfl, ?_⟩
        rw [isJob_word]
        refine ⟨_, rfl, ite2 (fun c => ?_) (fun c => ?_)⟩
        · refine ⟨_, rfl, acc, hD, ?_, same_upd S nD, _, upd_same, ?_⟩
          · rw [hl]
            have h1 := List.length_filter_le isJob (N.take j)
            rw [List.length_take] at h1
            have := ok.len
            exact small_line (by omega)
          · rw [tf, if_pos c, List.length_append, List.length_append, hl]
            rfl
        · refine ⟨S, acc, hD, ?_⟩
          rw [tf, if_neg c, List.append_nil]
          exact hl
      rintro H5 ⟨S5, acc, hD, hl⟩
      refine ⟨D, acc, rfl, .inl (SqL.of hD), ?_⟩
      rw [hl, nv.len, List.take_length]
      have pa : PlanAt K H5 (.ref pl) N := ⟨pl, vs, rfl, (Tp.same S5).seq sq, nv.tp (Tp.same S5)⟩
      have B5 := B4.same S5
      have hps := S5 _ _ hps
      have ra := ra.tp (Tp.same S5)
      -- job_count, job_runs, longest_cleanup
      refine ⟨_, rfl, _, N, rfl, pa, ok.len, fun H6 S6 => ?_⟩
      have pa := pa.tp (Tp.same S6)
      refine ⟨_, rfl, _, N, R, p.row, rfl, pa, ok, rf.trans eR, fun H7 S7 => ?_⟩
      have pa := pa.tp (Tp.same S7)
      refine ⟨_, rfl, _, N, rfl, pa, ok.len, cn, fun mx H8 hm hx S8 => ?_⟩
      have S8 := (S6.trans S7).trans S8
      have ec := cl hm hx
      have eb := cb hm
      subst ec
      refine ⟨three, fun t1 nt1 => ?_⟩
      have S9 := S8.trans (same_new (o := .tup [V.int ((N.filter isJob).length : Nat), .int p.row.runs, .int p.clean]) nt1)
      have hps := S9 _ _ hps
      have ra := ra.tp (Tp.same S9)
      obtain ⟨al, hal, sal⟩ := ra.at_ R.length p.row (by rw [eR, List.getElem?_append_right (Nat.le_refl _)]; simp)
      have atl : atI us (-1) = some (.ref al) := atI_end (n := R.length) (by rw [ra.len, eR]; simp) hal
      refine ⟨_, rfl, _, rfl, _, rfl, ps, _, _, _, rfl, rfl, SqL.of hps, atl, al, _, _, _, rfl, rfl, sal, rfl, _, rfl, _, rfl, ps, _, _, _, rfl, rfl, SqL.of hps, atl, al, _, _, _, rfl, rfl, sal, rfl, three, fun t2 nt2 => ?_⟩
      have S10 := same_new (o := .tup [V.int ((N.filter isJob).length : Nat), .int p.row.runs, .int p.row.clean]) nt2
      have ss : Short (.tuple ([(((N.filter isJob).length : Nat) : Int), p.row.runs, p.clean].map PyData.int)) := by
        refine short_tup (fun x hx => ?_) (by show 3 ≤ 4000; decide)
        have h1 := List.length_filter_le isJob N
        have h2 := ok.len
        have h3 : 1 ≤ p.row.runs := runs_pos p wp.ok
        have h4 : p.row.runs ≤ 60 := wp.runs
        rcases List.mem_cons.mp hx with e | hx
        · exact Sm.of (by omega) (by omega)
        rcases List.mem_cons.mp hx with e | hx
        · exact Sm.of (by omega) (by omega)
        · have e := List.mem_singleton.mp hx
          exact Sm.of (by omega) (by omega)
      refine ⟨.ref t1, .ref t2, _, rfl, .tup (SqT.of (S10 _ _ upd_same)) (all_ints (ns := [_, _, _])), .tup (SqT.of upd_same) (all_ints (ns := [_, _, _])), ss, _, rfl, iteF ?_⟩
      exact ⟨_, _, _, _, rfl, (B5.same S9).same S10⟩
    · rintro σ H2 ⟨v2, v3, v4, v5, rfl, B2⟩
      exact q _
end
end LB

set_option maxRecDepth 100000
set_option maxHeartbeats 8000000
namespace LB
open PySem PySem.Spec PyProof.Rows L2
open PySem.W (nsIn findIn subIn typeIn mroIn keepIn codeIn hasDictIn isClsIn specialIn takesIn)
/-- the law's def keeps its promise, from what the top has written -/
theorem all_mk {l : PySem.W.OpenLaw} {w : World} {K : PySem.W.Frag} {h : Heap} {mg : Str → Option Value} {fa : Addr} (X : K.In h) (G : h.Ns mainGlobals mg) (hfa : mg "law" = some (.ref fa))
    {fCell fDig fDr fJo fWh fPl fLp fSi fAl fPa fDe fJc fJr fTi fLo fLw : Addr} {odCell anCell odDig anDig odDr anDr odJo anJo odWh anWh odPl anPl odLp anLp odSi anSi odAl anAl odPa anPa odDe anDe odJc anJc odJr anJr odTi anTi odLo anLo odLw anLw : Option Addr} {slCell slDig slDr slJo slWh slPl slLp slSi slAl slPa slDe slJc slJr slTi slLo slLw : Array (Option Value)} {ocCell kVCell dcCell pmCell cdCell ctCell ocDig kVDig dcDig pmDig cdDig ctDig ocDr kVDr dcDr pmDr cdDr ctDr ocJo kVJo dcJo pmJo cdJo ctJo ocWh kVWh dcWh pmWh cdWh ctWh ocPl kVPl dcPl pmPl cdPl ctPl ocLp kVLp dcLp pmLp cdLp ctLp ocSi kVSi dcSi pmSi cdSi ctSi ocAl kVAl dcAl pmAl cdAl ctAl ocPa kVPa dcPa pmPa cdPa ctPa ocDe kVDe dcDe pmDe cdDe ctDe ocJc kVJc dcJc pmJc cdJc ctJc ocJr kVJr dcJr pmJr cdJr ctJr ocTi kVTi dcTi pmTi cdTi ctTi ocLo kVLo dcLo pmLo cdLo ctLo ocLw kVLw dcLw pmLw cdLw ctLw : Value}
    (aCell : nsIn K mainGlobals "_law_cell" = some (some (.ref fCell)))
    (lCell : K.lookup fCell = some ⟨ocCell, odCell, .func (PySem.W.fnOf "_law_cell" "_law_cell" (defArgs sCell) (defBody sCell) (defScope sCell) .none kVCell dcCell pmCell anCell cdCell ctCell), slCell⟩)
    (cCell : codeIn K cdCell "_law_cell" = true)
    (kCell : keepIn K (.ref fCell) = true)
    (aDig : nsIn K mainGlobals "_law_digits" = some (some (.ref fDig)))
    (lDig : K.lookup fDig = some ⟨ocDig, odDig, .func (PySem.W.fnOf "_law_digits" "_law_digits" (defArgs sDigits) (defBody sDigits) (defScope sDigits) .none kVDig dcDig pmDig anDig cdDig ctDig), slDig⟩)
    (cDig : codeIn K cdDig "_law_digits" = true)
    (kDig : keepIn K (.ref fDig) = true)
    (aDr : nsIn K mainGlobals "_law_draw" = some (some (.ref fDr)))
    (lDr : K.lookup fDr = some ⟨ocDr, odDr, .func (PySem.W.fnOf "_law_draw" "_law_draw" (defArgs sDraw) (defBody sDraw) (defScope sDraw) .none kVDr dcDr pmDr anDr cdDr ctDr), slDr⟩)
    (cDr : codeIn K cdDr "_law_draw" = true)
    (kDr : keepIn K (.ref fDr) = true)
    (aJo : nsIn K mainGlobals "_law_job" = some (some (.ref fJo)))
    (lJo : K.lookup fJo = some ⟨ocJo, odJo, .func (PySem.W.fnOf "_law_job" "_law_job" (defArgs sJob) (defBody sJob) (defScope sJob) .none kVJo dcJo pmJo anJo cdJo ctJo), slJo⟩)
    (cJo : codeIn K cdJo "_law_job" = true)
    (kJo : keepIn K (.ref fJo) = true)
    (aWh : nsIn K mainGlobals "_law_whole" = some (some (.ref fWh)))
    (lWh : K.lookup fWh = some ⟨ocWh, odWh, .func (PySem.W.fnOf "_law_whole" "_law_whole" (defArgs sWhole) (defBody sWhole) (defScope sWhole) .none kVWh dcWh pmWh anWh cdWh ctWh), slWh⟩)
    (cWh : codeIn K cdWh "_law_whole" = true)
    (kWh : keepIn K (.ref fWh) = true)
    (aPl : nsIn K mainGlobals "_law_plan" = some (some (.ref fPl)))
    (lPl : K.lookup fPl = some ⟨ocPl, odPl, .func (PySem.W.fnOf "_law_plan" "_law_plan" (defArgs sPlan) (defBody sPlan) (defScope sPlan) .none kVPl dcPl pmPl anPl cdPl ctPl), slPl⟩)
    (cPl : codeIn K cdPl "_law_plan" = true)
    (kPl : keepIn K (.ref fPl) = true)
    (aLp : nsIn K mainGlobals "_law_parts" = some (some (.ref fLp)))
    (lLp : K.lookup fLp = some ⟨ocLp, odLp, .func (PySem.W.fnOf "_law_parts" "_law_parts" (defArgs sLParts) (defBody sLParts) (defScope sLParts) .none kVLp dcLp pmLp anLp cdLp ctLp), slLp⟩)
    (cLp : codeIn K cdLp "_law_parts" = true)
    (kLp : keepIn K (.ref fLp) = true)
    (aSi : nsIn K mainGlobals "_law_sizes" = some (some (.ref fSi)))
    (lSi : K.lookup fSi = some ⟨ocSi, odSi, .func (PySem.W.fnOf "_law_sizes" "_law_sizes" (defArgs sLSizes) (defBody sLSizes) (defScope sLSizes) .none kVSi dcSi pmSi anSi cdSi ctSi), slSi⟩)
    (cSi : codeIn K cdSi "_law_sizes" = true)
    (kSi : keepIn K (.ref fSi) = true)
    (aAl : nsIn K mainGlobals "_law_alike" = some (some (.ref fAl)))
    (lAl : K.lookup fAl = some ⟨ocAl, odAl, .func (PySem.W.fnOf "_law_alike" "_law_alike" (defArgs sAlike) (defBody sAlike) (defScope sAlike) .none kVAl dcAl pmAl anAl cdAl ctAl), slAl⟩)
    (cAl : codeIn K cdAl "_law_alike" = true)
    (kAl : keepIn K (.ref fAl) = true)
    (aPa : nsIn K mainGlobals "parts_of" = some (some (.ref fPa)))
    (lPa : K.lookup fPa = some ⟨ocPa, odPa, .func (PySem.W.fnOf "parts_of" "parts_of" (defArgs sParts) (defBody sParts) (defScope sParts) .none kVPa dcPa pmPa anPa cdPa ctPa), slPa⟩)
    (cPa : codeIn K cdPa "parts_of" = true)
    (kPa : keepIn K (.ref fPa) = true)
    (aDe : nsIn K mainGlobals "depths" = some (some (.ref fDe)))
    (lDe : K.lookup fDe = some ⟨ocDe, odDe, .func (PySem.W.fnOf "depths" "depths" (defArgs sDepths) (defBody sDepths) (defScope sDepths) .none kVDe dcDe pmDe anDe cdDe ctDe), slDe⟩)
    (cDe : codeIn K cdDe "depths" = true)
    (kDe : keepIn K (.ref fDe) = true)
    (aJc : nsIn K mainGlobals "job_count" = some (some (.ref fJc)))
    (lJc : K.lookup fJc = some ⟨ocJc, odJc, .func (PySem.W.fnOf "job_count" "job_count" (defArgs sJobCount) (defBody sJobCount) (defScope sJobCount) .none kVJc dcJc pmJc anJc cdJc ctJc), slJc⟩)
    (cJc : codeIn K cdJc "job_count" = true)
    (kJc : keepIn K (.ref fJc) = true)
    (aJr : nsIn K mainGlobals "job_runs" = some (some (.ref fJr)))
    (lJr : K.lookup fJr = some ⟨ocJr, odJr, .func (PySem.W.fnOf "job_runs" "job_runs" (defArgs sJobRuns) (defBody sJobRuns) (defScope sJobRuns) .none kVJr dcJr pmJr anJr cdJr ctJr), slJr⟩)
    (cJr : codeIn K cdJr "job_runs" = true)
    (kJr : keepIn K (.ref fJr) = true)
    (aTi : nsIn K mainGlobals "times_run" = some (some (.ref fTi)))
    (lTi : K.lookup fTi = some ⟨ocTi, odTi, .func (PySem.W.fnOf "times_run" "times_run" (defArgs sTimes) (defBody sTimes) (defScope sTimes) .none kVTi dcTi pmTi anTi cdTi ctTi), slTi⟩)
    (cTi : codeIn K cdTi "times_run" = true)
    (kTi : keepIn K (.ref fTi) = true)
    (aLo : nsIn K mainGlobals "longest_cleanup" = some (some (.ref fLo)))
    (lLo : K.lookup fLo = some ⟨ocLo, odLo, .func (PySem.W.fnOf "longest_cleanup" "longest_cleanup" (defArgs sLongest) (defBody sLongest) (defScope sLongest) .none kVLo dcLo pmLo anLo cdLo ctLo), slLo⟩)
    (cLo : codeIn K cdLo "longest_cleanup" = true)
    (kLo : keepIn K (.ref fLo) = true)
    (aLw : nsIn K mainGlobals "law" = some (some (.ref fLw)))
    (lLw : K.lookup fLw = some ⟨ocLw, odLw, .func (PySem.W.fnOf "law" "law" (defArgs sLaw) (defBody sLaw) (defScope sLaw) .none kVLw dcLw pmLw anLw cdLw ctLw), slLw⟩)
    (cLw : codeIn K cdLw "law" = true)
    (kLw : keepIn K (.ref fLw) = true)
    (z0 : nsIn K mainGlobals "len" = some none)
    (z1 : nsIn K mainGlobals "range" = some none)
    (z2 : nsIn K mainGlobals "int" = some none)
    (z3 : nsIn K mainGlobals "repr" = some none)
    (z4 : nsIn K mainGlobals "tuple" = some none)
    (z5 : nsIn K mainGlobals "min" = some none)
    (z6 : nsIn K mainGlobals "max" = some none)
    (z7 : nsIn K mainGlobals "sum" = some none) :
    ∃ fd : FuncData, (∀ (s : Shared) (u : Value), BindsTo s fd ⟨[u], []⟩ [("script", u)]) ∧ ∀ base : Heap, K.In base → base.Ns mainGlobals mg → FnG l.prog w K mg base CX0 4 fa fd ["script"] (spLaw K) := by
  have FCell := fun_mk (st := sCell) lCell cCell kCell
  have bCell := FCell.binds (ps := ["script", "k"]) fun _ _ _ _ _ _ us hl => match us, hl with | [_, _], _ => rfl
  have mCell := PySem.W.mg_of X G aCell
  have FDig := fun_mk (st := sDigits) lDig cDig kDig
  have bDig := FDig.binds (ps := ["script", "first", "last"]) fun _ _ _ _ _ _ us hl => match us, hl with | [_, _, _], _ => rfl
  have mDig := PySem.W.mg_of X G aDig
  have FDr := fun_mk (st := sDraw) lDr cDr kDr
  have bDr := FDr.binds (ps := ["box", "many"]) fun _ _ _ _ _ _ us hl => match us, hl with | [_, _], _ => rfl
  have mDr := PySem.W.mg_of X G aDr
  have FJo := fun_mk (st := sJob) lJo cJo kJo
  have bJo := FJo.binds (ps := ["box"]) fun _ _ _ _ _ _ us hl => match us, hl with | [_], _ => rfl
  have mJo := PySem.W.mg_of X G aJo
  have FWh := fun_mk (st := sWhole) lWh cWh kWh
  have bWh := FWh.binds (ps := ["box", "kind", "tops"]) fun _ _ _ _ _ _ us hl => match us, hl with | [_, _, _], _ => rfl
  have mWh := PySem.W.mg_of X G aWh
  have FPl := fun_mk (st := sPlan) lPl cPl kPl
  have bPl := FPl.binds (ps := ["box", "jobs"]) fun _ _ _ _ _ _ us hl => match us, hl with | [_, _], _ => rfl
  have mPl := PySem.W.mg_of X G aPl
  have FLp := fun_mk (st := sLParts) lLp cLp kLp
  have bLp := FLp.binds (ps := ["node"]) fun _ _ _ _ _ _ us hl => match us, hl with | [_], _ => rfl
  have mLp := PySem.W.mg_of X G aLp
  have FSi := fun_mk (st := sLSizes) lSi cSi kSi
  have bSi := FSi.binds (ps := ["plan"]) fun _ _ _ _ _ _ us hl => match us, hl with | [_], _ => rfl
  have mSi := PySem.W.mg_of X G aSi
  have FAl := fun_mk (st := sAlike) lAl cAl kAl
  have bAl := FAl.binds (ps := ["one", "two"]) fun _ _ _ _ _ _ us hl => match us, hl with | [_, _], _ => rfl
  have mAl := PySem.W.mg_of X G aAl
  have FPa := fun_mk (st := sParts) lPa cPa kPa
  have bPa := FPa.binds (ps := ["node"]) fun _ _ _ _ _ _ us hl => match us, hl with | [_], _ => rfl
  have mPa := PySem.W.mg_of X G aPa
  have FDe := fun_mk (st := sDepths) lDe cDe kDe
  have bDe := FDe.binds (ps := ["plan"]) fun _ _ _ _ _ _ us hl => match us, hl with | [_], _ => rfl
  have mDe := PySem.W.mg_of X G aDe
  have FJc := fun_mk (st := sJobCount) lJc cJc kJc
  have bJc := FJc.binds (ps := ["plan"]) fun _ _ _ _ _ _ us hl => match us, hl with | [_], _ => rfl
  have mJc := PySem.W.mg_of X G aJc
  have FJr := fun_mk (st := sJobRuns) lJr cJr kJr
  have bJr := FJr.binds (ps := ["plan"]) fun _ _ _ _ _ _ us hl => match us, hl with | [_], _ => rfl
  have mJr := PySem.W.mg_of X G aJr
  have FTi := fun_mk (st := sTimes) lTi cTi kTi
  have bTi := FTi.binds (ps := ["node"]) fun _ _ _ _ _ _ us hl => match us, hl with | [_], _ => rfl
  have mTi := PySem.W.mg_of X G aTi
  have FLo := fun_mk (st := sLongest) lLo cLo kLo
  have bLo := FLo.binds (ps := ["plan"]) fun _ _ _ _ _ _ us hl => match us, hl with | [_], _ => rfl
  have mLo := PySem.W.mg_of X G aLo
  have FLw := fun_mk (st := sLaw) lLw cLw kLw
  have M0 : Names mg := ⟨PySem.W.mg_none_of X G z0, PySem.W.mg_none_of X G z1, PySem.W.mg_none_of X G z2, PySem.W.mg_none_of X G z3⟩
  have M : NamesP mg := ⟨M0, PySem.W.mg_none_of X G z4, PySem.W.mg_none_of X G z5, PySem.W.mg_none_of X G z6, PySem.W.mg_none_of X G z7⟩
  have e := hfa.symm.trans (PySem.W.mg_of X G aLw)
  cases e
  refine ⟨_, fun s v => .of_eq rfl, fun base _ _ => ok_law FLw ?_⟩
  exact
    { G := ⟨_, _, ok_digits FDig M0 FCell mCell bCell, mDig, kDig, bDig⟩, Pl := ⟨_, _, ok_plan FPl M FDr mDr bDr FJo mJo bJo FWh mWh bWh, mPl, kPl, bPl⟩, S := ⟨_, _, ok_sizes FSi M FLp mLp bLp, mSi, kSi, bSi⟩, A := ⟨_, _, ok_alike FAl M0, mAl, kAl, bAl⟩,
      D := ⟨_, _, ok_depths FDe M FPa mPa bPa, mDe, kDe, bDe⟩, C := ⟨_, _, ok_count FJc M, mJc, kJc, bJc⟩, R := ⟨_, _, ok_runs FJr M FPa mPa bPa FTi mTi bTi, mJr, kJr, bJr⟩, L := ⟨_, _, ok_longest FLo M, mLo, kLo, bLo⟩, names := M }
end LB

open PySem PySem.W PyProof.Rows
set_option maxRecDepth 100000 in
set_option maxHeartbeats 0 in
theorem PySem.Challenge.cw_asforetold_k04_sizes_of_plans_holds : PySem.Challenge.rw_asforetold_k04_sizes_of_plans.Holds := by
  w_on; o_law; k_head; (case hw => w_witness2)
  k_fill
  refine LB.walk_free (l := PySem.Challenge.rw_asforetold_k04_sizes_of_plans) (n := 63) (k := 4) (x := "script") (CX := L2.CX0) (sp := LB.spLaw) rfl (by decide) rfl ⟨rfl, by decide, by decide⟩ (fun w h Y => PySem.W.kIn_of Y) ?F (fun K H a ns hl _ hS => ⟨a, ns, rfl, hS, fun _ => rfl⟩) fun _ _ _ _ z => z
  case F =>
    intro w mg fa h KX G hmg
    refine' LB.all_mk KX G hmg ?aCell ?lCell ?cCell ?kCell ?aDig ?lDig ?cDig ?kDig ?aDr ?lDr ?cDr ?kDr ?aJo ?lJo ?cJo ?kJo ?aWh ?lWh ?cWh ?kWh ?aPl ?lPl ?cPl ?kPl ?aLp ?lLp ?cLp ?kLp ?aSi ?lSi ?cSi ?kSi ?aAl ?lAl ?cAl ?kAl ?aPa ?lPa ?cPa ?kPa ?aDe ?lDe ?cDe ?kDe ?aJc ?lJc ?cJc ?kJc ?aJr ?lJr ?cJr ?kJr ?aTi ?lTi ?cTi ?kTi ?aLo ?lLo ?cLo ?kLo ?aLw ?lLw ?cLw ?kLw ?z0 ?z1 ?z2 ?z3 ?z4 ?z5 ?z6 ?z7
    (case aCell => k_is)
    (case lCell => k_is)
    (case cCell => k_is)
    (case kCell => k_is)
    (case aDig => k_is)
    (case lDig => k_is)
    (case cDig => k_is)
    (case kDig => k_is)
    (case aDr => k_is)
    (case lDr => k_is)
    (case cDr => k_is)
    (case kDr => k_is)
    (case aJo => k_is)
    (case lJo => k_is)
    (case cJo => k_is)
    (case kJo => k_is)
    (case aWh => k_is)
    (case lWh => k_is)
    (case cWh => k_is)
    (case kWh => k_is)
    (case aPl => k_is)
    (case lPl => k_is)
    (case cPl => k_is)
    (case kPl => k_is)
    (case aLp => k_is)
    (case lLp => k_is)
    (case cLp => k_is)
    (case kLp => k_is)
    (case aSi => k_is)
    (case lSi => k_is)
    (case cSi => k_is)
    (case kSi => k_is)
    (case aAl => k_is)
    (case lAl => k_is)
    (case cAl => k_is)
    (case kAl => k_is)
    (case aPa => k_is)
    (case lPa => k_is)
    (case cPa => k_is)
    (case kPa => k_is)
    (case aDe => k_is)
    (case lDe => k_is)
    (case cDe => k_is)
    (case kDe => k_is)
    (case aJc => k_is)
    (case lJc => k_is)
    (case cJc => k_is)
    (case kJc => k_is)
    (case aJr => k_is)
    (case lJr => k_is)
    (case cJr => k_is)
    (case kJr => k_is)
    (case aTi => k_is)
    (case lTi => k_is)
    (case cTi => k_is)
    (case kTi => k_is)
    (case aLo => k_is)
    (case lLo => k_is)
    (case cLo => k_is)
    (case kLo => k_is)
    (case aLw => k_is)
    (case lLw => k_is)
    (case cLw => k_is)
    (case kLw => k_is)
    (case z0 => k_is)
    (case z1 => k_is)
    (case z2 => k_is)
    (case z3 => k_is)
    (case z4 => k_is)
    (case z5 => k_is)
    (case z6 => k_is)
    (case z7 => k_is)

