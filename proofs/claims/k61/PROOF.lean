import PyProof.Rows.All
import Wide.All
import OpenK.AllK
import Wide.FinOn
import HandS.ForExc
import HandS.EndBits
import HandS.Wide
import HandS.TupLe
import PyProof.StrBlock2
import HandS.Text
import HandS.Dict
import HandS.DictComp
import HandS.List
import HandS.Walk
import PyProof.EqLayable
import HandS.ExcSuper
import HandS.ExcIs
import KE.KExcSuper
import KE.KExcIs
import HandS.ExcOwn
import HandS.Call
import HandS.Exc
import HandS.TryMany
import KE.KDictKeyed
import KE.KeyNested
import HandS.Lambda
import HandS.Iter
import KE.DataMinKey
import KE.LtData
import KE.SortKeyHeap
import HandS.ExcValue
import KE.KDictCopyH
import KE.KDictSum
import HandS.SortKw
import HandS.TupMul
import HandS.Codes
import HandS.Comp
import HandS.TupAny
import HandS.Strs
import HandS.NoneIn
import HandS.IsInst
import KE.KTupSum
import KE.KEqSeq
import PySem.Challenge.RW_asforetold_k61_books_take_each_once
set_option Elab.async false
set_option linter.all false
set_option maxRecDepth 100000
set_option maxHeartbeats 2000000
namespace LB
open PySem PySem.Spec PyProof.Rows L2
/-! ### defs that are called where no repr is under way -/
def Free (A : Around) : Prop := A.guards = some []
/-- as a def's promise, but told of calls from places at which no repr is under way alone -/
structure FnG (P : Program) (w : World) (K : PySem.W.Frag) (mg : Str → Option Value) (base : Heap) (CX : CXT) (k : Nat) (f : Addr) (fd : FuncData) (ps : List Str) (sp : Sp) : Prop where
  many : ∀ xs H Q E, sp xs H Q E → xs.length = ps.length
  goes : ∀ (A : Around) (fr : List Env) (s : Shared) (H : Hp) (a : Args) (us : List Value) (xs : List V) (Q : VK) (E : XK), Free A → Room k A → Env0 P w K mg base A fr s H →
    BindsTo s fd a (ps.zip us) → Vals xs us → sp xs H Q E → codeAny (model P w) A (.call (.ref f) a) (CR CX fr P w H s Q E) s
theorem FnG.ofOk {P : Program} {w : World} {K : PySem.W.Frag} {mg : Str → Option Value} {base : Heap} {CX : CXT} {k : Nat} {f : Addr} {fd : FuncData} {ps : List Str} {sp : Sp} (F : FnOk P w K mg base CX k f fd ps sp) : FnG P w K mg base CX k f fd ps sp :=
  ⟨F.len, fun A fr s H a us xs Q E _ => F.run A fr s H a us xs Q E⟩
theorem FnG.up {P : Program} {w : World} {K : PySem.W.Frag} {mg : Str → Option Value} {base : Heap} {CX : CXT} {j k : Nat} {f : Addr} {fd : FuncData} {ps : List Str} {sp : Sp} (F : FnG P w K mg base CX j f fd ps sp) (h : j ≤ k) : FnG P w K mg base CX k f fd ps sp :=
  ⟨F.many, fun A fr s H a us xs Q E g r => F.goes A fr s H a us xs Q E g (r.mono h)⟩
theorem Free.deeper {A : Around} (g : Free A) (env : Env) : Free (A.deeper env) := by
  first
    | exact g
    | (unfold Free at *; simpa [Around.deeper] using g)
/-- by the body, as fn_of -/
theorem FnG.by_body {CX : CXT} {P : Program} {w : World} {K : PySem.W.Frag} {mg : Str → Option Value} {base : Heap} {k : Nat} {f : Addr} {x q : Str} {pa : Arguments} {bd : List Stmt} {sc : Scope} {v1 v2 v3 v4 v5 v6 v7 : Value} {a1 a2 : Option Addr}
    {sl : Array (Option Value)} {N ps : List Str} {sp : Sp} (at_ : K.lookup f = some ⟨v7, a2, .func (PySem.W.fnOf x q pa bd sc v1 v2 v3 v4 a1 v5 v6), sl⟩) (code : PySem.W.codeIn K v5 q = true) (S : FnScope N ps sc)
    (many : ∀ xs H Q E, sp xs H Q E → xs.length = ps.length)
    (body : ∀ (A : Around) (fr : List Env) (s : Shared) (H : Hp) (xs : List V) (Q : VK) (E : XK), Free (A.deeper (envOfC q sc s.heap.objs.size f v5)) → Room k (A.deeper (envOfC q sc s.heap.objs.size f v5)) → sp xs H Q E →
      ∃ t, PSs (cxOf CX P w K mg base N q sc f v5 A fr s H E) bd t ∧ t { nx := fun _ H' => Q .non H', rt := Q } (start N xs) H) :
    FnG P w K mg base CX (k + 1) f (PySem.W.fnOf x q pa bd sc v1 v2 v3 v4 a1 v5 v6) ps sp := by
  constructor
  · exact many
  intro A fr s H a us xs Q E g room e0 bound vals want
  have kin : K.In s.heap := e0.mod.kin.keeps fun b o z => (e0.bs b o z).1
  have nolim : s.heap.NoLimit := e0.mod.nolimit.keeps fun b o z => (e0.bs b o z).1
  have len := many _ _ _ _ want
  obtain ⟨t, derived, reads⟩ := body A fr s H xs Q E (g.deeper _) (room.deeper _) want
  have kinds : ∀ y ∈ ps.zip us, sc.names.lookup y.1 = some .local ∨ (sc.names.lookup y.1 = some .cell ∧ ((cellsFrom (s.heap.objs.size + 1) sc.names []).lookup y.1).isSome = true) := by
    rintro ⟨n, v⟩ hy
    cases S.par n (List.of_mem_zip hy).1 with
    | inl z => exact .inl z
    | inr z => exact .inr ⟨z, PySem.W.cellsFrom_some _ _ _ (.inl z)⟩
  refine codeAny_call_function room.depth (kin _ _ at_) rfl S.co S.gen rfl (PySem.W.codeRec_of kin code) (bound _ _ _ _ ?_)
  refine wpAny_newFunctionEnv_cells S.kind kinds ?_
  intro env he s1 into
  subst he
  refine ⟨nolim.keeps into.toInCall.keep, codeAny_func ?_⟩
  have I := inv_start (CX := CX) (E := E) S room.hd e0 len vals into
  refine wpAny_mono (derived.run [] s1 (start N xs) H _ I reads) ?_ (fun _ _ z => z)
  intro fl s2 z
  cases fl with
  | next =>
    obtain ⟨σ2, H2, J, q⟩ := z
    exact ⟨.non, H2, J.os, J.bare, J.base, J.hok, rfl, q⟩
  | ret u =>
    obtain ⟨v, σ2, H2, J, r, q⟩ := z
    exact ⟨v, H2, J.os, J.bare, J.base, J.hok, r, q⟩
  | brk =>
    obtain ⟨_, _, _, q⟩ := z
    exact q.elim
  | cont =>
    obtain ⟨_, _, _, q⟩ := z
    exact q.elim
theorem FnG.of_fun {P : Program} {w : World} {K : PySem.W.Frag} {mg : Str → Option Value} {base : Heap} {x q : Str} {st : Stmt} {f : Addr} {fd : FuncData} {N ps : List Str} {k : Nat} {sp : Sp} (F : Fun K x q st f fd) (S : FnScope N ps (defScope st)) (many : ∀ xs H Q E, sp xs H Q E → xs.length = ps.length)
    (body : ∀ (cdv : Value) (A : Around) (fr : List Env) (s : Shared) (H : Hp) (xs : List V) (Q : VK) (E : XK), Free (A.deeper (envOfC q (defScope st) s.heap.objs.size f cdv)) → Room k (A.deeper (envOfC q (defScope st) s.heap.objs.size f cdv)) → sp xs H Q E →
      ∃ t, PSs (cxOf CX0 P w K mg base N q (defScope st) f cdv A fr s H E).nox (defBody st) t ∧ t { nx := fun _ H' => Q .non H', rt := Q } (start N xs) H) : FnG P w K mg base CX0 (k + 1) f fd ps sp := by
  obtain ⟨v7, a2, v2, v3, v4, a1, v5, v6, sl, rfl, at_, code⟩ := F.ex
  refine FnG.by_body at_ code S many ?_
  intro A fr s H xs Q E g r want
  obtain ⟨t, h, q⟩ := body v5 A fr s H xs Q E g r want
  exact ⟨t, h.nox, q⟩
section
variable {X : Cx} {CX : CXT} {k : Nat} {f : Addr} {fd : FuncData} {ps : List Str} {sp : Sp} {dvs : List V} {ds : List Value} {E : XK} {x : Str} {p pos : Pos} {e : Expr} {es : List Expr} {t : TA}
/-- f(e, ..), f such a def -/
theorem pe_callF (g : Free X.A) (F : FnG X.prog X.w X.K X.mg X.base CX k f fd ps sp) (hr : Room k X.A) (hg : Gl X x) (hm : X.mg x = some (.ref f)) (hk : PySem.W.keepIn X.K (.ref f) = true) (hb : Binds X.K fd ps ds) (hd : Vals dvs ds) (hx : Passes CX X E)
    (ha : PA X (e :: es) t) (hdb : (x == ("__debug__" : Str)) = false := by decide) (he : starEach (e :: es) X.env = (false, eval e X.env) :: starEach es X.env := by rfl) (hpl : (backTo pos (starEach es X.env)).any (·.1) = false := by rfl) :
    PE X (.Call (.Name x p) (e :: es) [] pos) (tCall sp dvs E t) := by
  constructor
  intro pins s σ H Q I h
  refine wpAny_Call_Name_kw (ld_glob I hg hm ?_ hdb)
  refine PySem.W.callWith_K (h₀ := X.base) I.ok.mod.kin hk (thn (ha.run pos pins s σ H _ I h) ?_) he hpl
  rintro us s1 ⟨xs, H1, I1, r, q⟩
  refine ⟨I1.kIn, ?_⟩
  have r2 : Vals (xs ++ dvs) (us ++ ds) := r.append hd
  have len : (us ++ ds).length = ps.length := r2.length.symm.trans (F.many _ _ _ _ q)
  refine wpAny_call (codeAny_mono (F.goes X.A X.stack s1 H1 ⟨us, []⟩ (us ++ ds) (xs ++ dvs) Q E g hr I1.env0 (hb s1 us I1.kIn len) r2 q) ?_)
  intro res s2 z
  match res, z with
  | .error err, z => exact hx pins σ H1 s1 err s2 I1 z
  | .ok (.ret u), z => exact I1.after z
  | .ok .next, z => exact False.elim z
  | .ok .brk, z => exact False.elim z
  | .ok .cont, z => exact False.elim z
end
end LB

set_option maxRecDepth 100000
set_option maxHeartbeats 2000000
namespace LB
open PySem PySem.Spec PyProof.Rows L2
/-! ### repr of data -/
/-- data whose repr is short enough to be told -/
structure Short (d : PyData) : Prop where
  sh : d.showable = true
  nd : d.hasDict = false
  dp : d.depth ≤ 50
  len : d.shown.length ≤ sizeLine
def rRepr (K : PySem.W.Frag) : List V → Hp → VK → Prop := fun xs H Q => ∃ v d, xs = [v] ∧ Dp K H v d ∧ Short d ∧ Q (.str d.shown) H
theorem call_repr {X : Cx} (g : Free X.A) (hu : X.A.units + 64 < cLine) : CallR X (.builtin "repr") (rRepr X.K) := by
  intro pins s σ H xs us Q I r h
  obtain ⟨v, d, rfl, hd, S, q⟩ := h
  obtain ⟨u, rfl, ru⟩ := vals1 r
  obtain ⟨as, rd⟩ := Dp.reads I d v u hd ru
  have fin : ∀ (a : Addr), Reads s.heap (.ref a) d as → wpAny (model X.prog X.w) X.A (call (.builtin "repr") [.ref a]) (EP X pins σ Q) X.xe s := fun a ra => by
    have dp := S.dp
    refine repr_of_reads' ra S.sh (PyData.noDict_hsm S.nd) g (by omega) (fun _ _ z => z) ?_ S.len
    intro h' t tk kept
    exact ⟨.str d.shown, H, I.kept kept, ⟨_, rfl⟩, q⟩
  cases rd with
  | none => exact PySem.P.repr_of_none ⟨.str _, H, I.tok _, ⟨_, rfl⟩, q⟩
  | bool b => exact PySem.P.repr_of_bool ⟨.str _, H, I.tok _, ⟨_, rfl⟩, q⟩
  | int i t => exact PySem.P.repr_of_int (by have z := S.sh; simpa [PyData.showable] using z) ⟨.str _, H, I.tok _, ⟨_, rfl⟩, q⟩
  | str x t => exact PySem.P.repr_of_str ⟨.str _, H, I.tok _, ⟨_, rfl⟩, q⟩ S.len
  | list h1 h2 h3 h4 => exact fin _ (.list h1 h2 h3 h4)
  | tuple h1 h2 h3 h4 => exact fin _ (.tuple h1 h2 h3 h4)
  | dict h1 h2 h3 h4 h5 => exact absurd S.nd (by simp [PyData.hasDict])
/-- small ints, texts of up to a million signs in all -/
theorem Short.of {d : PyData} (h1 : d.showable = true) (h2 : d.hasDict = false) (h3 : d.depth ≤ 50) (h4 : d.leavesShort 13 = true) (h5 : d.bulk ≤ 2 ^ 20) : Short d :=
  ⟨h1, h2, h3, PyData.shown_fits_bulk (by decide) (by decide) h4 h5⟩
theorem log_small {i : Int} (h : i.natAbs < 10 ^ 12) : i.natAbs.log2 < 1920 := by
  by_cases z : i.natAbs = 0
  · rw [z]; decide
  · have := (Nat.log2_lt z (k := 1920)).mpr (Nat.lt_trans h (by decide))
    exact this
theorem leaf_small {i : Int} (h : i.natAbs < 10 ^ 12) : (PyData.shown (.int i)).length ≤ 13 := PyData.shown_int_le (by simpa using h)
/-- an int below 10 ^ 12 in size -/
def Sm (i : Int) : Prop := i.natAbs < 10 ^ 12
theorem Sm.of {i : Int} (h1 : -1000000000 ≤ i) (h2 : i ≤ 1000000000) : Sm i := by
  have e : (10 : Nat) ^ 12 = 1000000000000 := by decide
  unfold Sm
  rw [e]
  omega
/-! ### two values of one repr -/
def spAlike (K : PySem.W.Frag) : Sp := fun vs H Q _ => ∃ x y d, vs = [x, y] ∧ Dp K H x d ∧ Dp K H y d ∧ Short d ∧ Q (.bl true) H
end LB

set_option maxRecDepth 100000
set_option maxHeartbeats 2000000
namespace LB
open PySem PySem.Spec PyProof.Rows L2
/-! ### the end of a law's row whose def is told of free places alone -/
section
variable {P : Program} {w : World} {K : PySem.W.Frag} {mg mb : Str → Option Value} {CX : CXT} {k : Nat} {fa a : Addr} {fd : FuncData} {x : Str} {sp : Sp} {z : Shared} {us : List Value} {ns : List Int}
/-- what law answers, from a heap H that tracks the script at most -/
theorem answer_from {H : Hp} (g : z.gens = #[]) (only : Only H) (alone : ∀ b, H b ≠ none → b = a) (isL : ∃ d n, (z.heap.get? a).map Obj.data = some (.seq d n)) (kin : K.In z.heap) (apart : H a ≠ none → K.lookup a = none)
    (ng : z.heap.Ns mainGlobals mg) (nb : z.heap.Ns builtinsNs mb) (boot : ∀ y : Str, y ≠ "__name__" → mb y = bootBuiltins y) (nolim : z.heap.NoLimit) (hok : HOk P w H z.heap) (room : Room k callerA)
    (F : ∀ b : Heap, K.In b → b.Ns mainGlobals mg → FnG P w K mg b CX k fa fd [x] sp) (binds : ∀ (s : Shared) (u : Value), BindsTo s fd ⟨[u], []⟩ [(x, u)])
    (want : sp [.ref a] H (fun v _ => v = .bl true) fun _ _ _ => False) (calm : ∀ e s', CX [] H z (fun _ _ _ => False) e s' → False) :
    codeAny (model P w) callerA (.call (.ref fa) ⟨[.ref a], []⟩) (fun r s' => r = .ok (.ret (.bool true)) ∧ OldK z.heap s'.heap ∧ s'.os = z.os ∧ AllBare s'.gens) z := by
  have dictFree : ∀ {b : Addr} {o : Obj} {es : Array DictEntry} {n : Nat}, z.heap.get? b = some o → o.data = .dict es n → H b = none := by
    intro b o es n at_ da
    by_cases q : H b = none
    · exact q
    · have eb := alone b q
      subst eb
      obtain ⟨d, m, e⟩ := isL
      rw [at_] at e
      have e2 := Option.some.inj e
      rw [da] at e2
      cases e2
  have moved : ∀ {b : Addr} {m : Str → Option Value}, z.heap.Ns b m → (hidT z.heap H).Ns b m := by
    rintro b m ⟨o, es, n, at_, da, r⟩
    exact ⟨o, es, n, hidT_get at_ (dictFree at_ da), da, r⟩
  have kin2 : K.In (hidT z.heap H) := by
    intro b o at_
    refine hidT_get (kin b o at_) ?_
    by_cases q : H b = none
    · exact q
    · have eb := alone b q
      subst eb
      rw [apart q] at at_
      cases at_
  obtain ⟨mc, c1, c2⟩ := nolim
  have e0 : Env0 P w K mg (hidT z.heap H) callerA [] z H :=
    { frames := rfl, mod := ⟨kin2, moved ng, ⟨mb, moved nb, boot⟩, ⟨mc, moved c1, c2⟩⟩, bs := fun _ _ at_ => of_hidT at_, bsz := Nat.le_of_eq (hidT_size _ _), funs := trivial,
      frf := fun b hb => absurd (show b ∈ ([] : List Addr) from hb) List.not_mem_nil, hok := hok, bare := .of_eq g }
  refine codeAny_mono ((F _ kin2 (moved ng)).goes callerA [] z H ⟨[.ref a], []⟩ [.ref a] [.ref a] _ _ rfl room e0 (binds z (.ref a)) (.cons rfl .nil) want) ?_
  intro r s' out
  match r, out with
  | .error e, out => exact (calm e s' out).elim
  | .ok .next, out => exact False.elim out
  | .ok .brk, out => exact False.elim out
  | .ok .cont, out => exact False.elim out
  | .ok (.ret u), out =>
    obtain ⟨v, H', os, bare, un, hok', r', q⟩ := out
    have q' : v = .bl true := q
    subst q'
    have eu : u = Value.bool true := r'
    subst eu
    refine ⟨rfl, OldK.of_keep ?_, os, bare⟩
    intro b o at_
    by_cases q : H b = none
    · exact un.keep b o at_ q (fun y => absurd (show b ∈ ([] : List Addr) from y) List.not_mem_nil) List.not_mem_nil
    · rcases only b with y | ⟨ob, xs, y⟩
      · exact absurd y q
      · obtain ⟨e1, _⟩ := hok b _ y
        obtain ⟨e2, _⟩ := hok' b _ (un.frzs b ob _ y)
        rw [at_] at e1
        cases e1
        exact e2
end
theorem walk_free {l : PySem.W.OpenLaw} {n k : Nat} {q : Program} {loose : List Str} {XP : (Str → Option Value) → Heap → Prop} {YP : World → Heap → Prop} {d : DefRec} {K : Params → PySem.W.Frag} {CX : CXT} {sp : PySem.W.Frag → Sp} {x : Str}
    (most : l.most = some n) (small : n ≤ sizeLine) (plain : d.params.defaults = []) (room : Room k callerA) (hY : ∀ (w : World) (h : Heap), YP w h → (K w.params).In h)
    (F : ∀ (w : World) (mg : Str → Option Value) (fa : Addr) (h : Heap), (K w.params).In h → h.Ns mainGlobals mg → mg d.name = some (.ref fa) →
      ∃ fd : FuncData, (∀ (s : Shared) (u : Value), BindsTo s fd ⟨[u], []⟩ [(x, u)]) ∧ ∀ base : Heap, (K w.params).In base → base.Ns mainGlobals mg → FnG l.prog w (K w.params) mg base CX k fa fd [x] (sp (K w.params)))
    (want : ∀ (K : PySem.W.Frag) (H : Hp) (a : Addr) (ns : List Int), ns.length ≤ n → (∀ i ∈ ns, Builtin.Int.intBits i ≤ 1048576) → SqL K H a (ns.map V.int) → sp K [.ref a] H (fun v _ => v = .bl true) fun _ _ _ => False)
    (calm : ∀ (H : Hp) (s : Shared) (e : Value) (s' : Shared), CX [] H s (fun _ _ _ => False) e s' → False) :
    PySem.W.WalkO q loose XP YP l.row.toRowW d [] (fun f vs => PySem.call f vs) := by
  refine Att.attach_callB most plain ?_
  intro w s₀ z mg mb fa o pm cd doc a us ns G Y ho hd hcd hmg at_ nums len bits g
  have kin := hY w _ Y
  obtain ⟨fd, hb, hF⟩ := F w mg fa _ kin G.T.g hmg
  have vals := vals_ints nums
  have lenU : us.length = ns.length := nums.length
  have lenS : (ns.map V.int).length ≤ sizeLine := by rw [List.length_map]; exact Nat.le_trans len small
  have isL : ∃ d n, (z.heap.get? a).map Obj.data = some (.seq d n) := ⟨us.toArray, _, by rw [at_]; rfl⟩
  cases lk : (K w.params).lookup a with
  | some ob =>
    have eo := kin a ob lk
    rw [at_] at eo
    cases eo
    refine answer_from (H := fun _ => none) g (fun _ => .inl rfl) (fun b y => absurd rfl y) isL kin (fun y => absurd rfl y) G.T.g G.T.b G.T.builtins G.T.nolimit (fun b u y => by cases (show (none : Option HO) = some u from y)) room hF hb ?_ fun e s' => calm _ z e s'
    exact want _ _ a ns len bits (.inr ⟨_, us.toArray, _, lk, rfl, rfl, rfl, by simpa [lenU] using lenS, by simpa using vals⟩)
  | none =>
    let S : HO := .frz { cls := .type "list", data := .seq us.toArray } (.lst (ns.map V.int))
    have yes : upd (fun _ => none) a S a = some S := upd_same
    have no : ∀ b, b ≠ a → upd (fun _ => none) a S b = none := fun b hb => by rw [upd_ne hb]
    refine answer_from (H := upd (fun _ => none) a S) g (fun b => ?_) (fun b y => ?_) isL kin (fun _ => lk) G.T.g G.T.b G.T.builtins G.T.nolimit (fun b u y => ?_) room hF hb ?_ fun e s' => calm _ z e s'
    · by_cases hb : b = a
      · subst hb
        exact .inr ⟨_, _, yes⟩
      · exact .inl (no b hb)
    · exact Classical.byContradiction fun hb => y (no b hb)
    · by_cases hb : b = a
      · subst hb
        have ey := Option.some.inj (yes.symm.trans y)
        subst ey
        exact ⟨at_, lenS, us, _, vals, at_⟩
      · rw [no b hb] at y
        cases y
    · exact want _ _ a ns len bits (.inl (.inr ⟨_, yes⟩))
end LB

set_option maxRecDepth 100000
set_option maxHeartbeats 2000000
namespace LB
open PySem PySem.Spec PyProof.Rows L2
/-! ### text * int -/
theorem op_mulS {X : Cx} : OpR X (binaryOp .Mult) (fun x y H Q => ∃ z n, x = .str z ∧ y = .int n ∧ MulOk z n ∧ Q (.str (Txt.mul z n)) H) := by
  intro pins s σ H x y v u Q I rx ry h
  obtain ⟨z, n, rfl, rfl, ok, q⟩ := h
  obtain ⟨t, rfl⟩ := rx
  obtain ⟨t', rfl⟩ := ry
  exact SB.mul ok fun t' k => ⟨.str _, H, I.tok k, ⟨t', rfl⟩, q⟩
/-! ### len of a text, told of no place -/
theorem call_lenS {X : Cx} : CallR X (.builtin "len") (fun xs H Q => ∃ z : Str, xs = [.str z] ∧ z.length ≤ sizeLine ∧ Q (.int z.length) H) := by
  intro pins s σ H xs us Q I r h
  obtain ⟨z, rfl, hz, q⟩ := h
  exact call_len pins s σ H _ us Q I r ⟨_, z.length, rfl, ⟨hz, rfl⟩, q⟩
end LB

set_option maxRecDepth 100000
set_option maxHeartbeats 4000000
namespace LB
open PySem PySem.Spec PyProof.Rows L2 TL
/-! ### texts by their codes, slices, dicts made out of a text -/
def ofL (l : List Nat) : Str := ⟨l.toArray⟩
theorem tl_ofL (l : List Nat) : tl (ofL l) = l := by simp [ofL, tl]
theorem ofL_len (l : List Nat) : (ofL l).length = l.length := by rw [len_tl, tl_ofL]
theorem ofL_app (a b : List Nat) : ofL a ++ ofL b = ofL (a ++ b) := ext_tl (by rw [tl_append, tl_ofL, tl_ofL, tl_ofL])
theorem ofL_tl (z : Str) : ofL (tl z) = z := ext_tl (tl_ofL _)
theorem ofL_inj {a b : List Nat} (h : ofL a = ofL b) : a = b := by rw [← tl_ofL a, h, tl_ofL]
theorem joinL_nil : ∀ ps : List (List Nat), joinL [] ps = ps.flatten
  | [] => rfl
  | [p] => by simp [joinL]
  | p :: q :: r => by
    show p ++ ([] ++ joinL [] (q :: r)) = _
    rw [joinL_nil (q :: r)]
    simp
theorem join_ofL (cs : List Nat) : Txt.join "" (cs.map fun c => ofL [c]) = ofL cs := by
  refine ext_tl ?_
  rw [TL.join_eq, tl_join, tl_ofL, show tl ("" : Str) = [] by decide, joinL_nil, List.map_map]
  induction cs with
  | nil => rfl
  | cons c r ih =>
    rw [List.map_cons, List.flatten_cons, ih]
    show tl (ofL [c]) ++ r = c :: r
    rw [tl_ofL]
    rfl
theorem ones_sum : ∀ cs : List Nat, ((cs.map fun c => ofL [c]).map (·.length)).sum = cs.length
  | [] => rfl
  | c :: r => by
    rw [List.map_cons, List.map_cons, List.sum_cons, ones_sum r, ofL_len, List.length_cons, List.length_cons, List.length_nil]
    omega
theorem ones_room {cs : List Nat} (h : cs.length ≤ 16777216) : ((cs.map fun c => ofL [c]).map (·.length)).sum + (cs.map fun c => ofL [c]).length * (("" : Str)).length ≤ 16777216 := by
  rw [ones_sum, show (("" : Str)).length = 0 by decide, Nat.mul_zero]
  exact h
theorem dc_it {J : It} {n : Nat} {G : Hp → Prop} {Y : Nat → Hp → V → Hp → Prop} (w : Walk J n G Y) {g : TG} {tt : TT} {tk tv : TE} {vs : List Nat} {σ : L2.St} {H1 : Hp} {D : Addr} {Qd : Hp → Prop} (Pv : Nat → Hp → Prop) (h0 : Pv 0 (upd H1 D (.dK []))) (hG : ∀ i H, i ≤ n → Pv i H → G H)
    (hs : ∀ i x H H', i < n → Pv i H → Y i H x H' → g x (wipe σ vs) H' fun σ2 H2 => wipe σ2 vs = wipe σ vs ∧ tt σ2 H2 fun b H3 =>
      if b = true then tk σ2 H3 fun y H4 => tv σ2 H4 fun z H5 => ∃ kvs k, y = kV k ∧ H5 D = some (.dK kvs) ∧ kvs.length < sizeLine ∧ Pv (i + 1) (upd H5 D (.dK (putK kvs k z))) else Pv (i + 1) H3) (hd : ∀ H, Pv n H → Qd H) :
    ∃ W : Nat → Nat → Hp → Prop, (∃ m, W 0 m (upd H1 D (.dK []))) ∧ ∀ i m H, W i m H →
      (J.stop i H ∧ Qd H) ∨ (J.go i H ∧ ∃ Nx : Hp → Prop, (∀ H', Nx H' → ∃ m', m' < m ∧ W (i + 1) m' H') ∧ ∀ x H', J.yld i H x H' → g x (wipe σ vs) H' fun σ2 H2 => wipe σ2 vs = wipe σ vs ∧ tt σ2 H2 fun b H3 =>
        if b = true then tk σ2 H3 fun y H4 => tv σ2 H4 fun z H5 => ∃ kvs k, y = kV k ∧ H5 D = some (.dK kvs) ∧ kvs.length < sizeLine ∧ Nx (upd H5 D (.dK (putK kvs k z))) else Nx H3) := by
  refine ⟨fun i m H => m = n - i ∧ i ≤ n ∧ Pv i H, ⟨n, by simp, Nat.zero_le _, h0⟩, ?_⟩
  rintro i m H ⟨rfl, hi, p⟩
  have q := hG i H hi p
  by_cases hlt : i < n
  · exact .inr ⟨w.goes i H hlt q, Pv (i + 1), fun H' p' => ⟨n - (i + 1), by omega, rfl, hlt, p'⟩, fun x H' y => hs i x H H' hlt p (w.yields i H x H' hlt q y)⟩
  · have e : i = n := by omega
    subst e
    exact .inl ⟨w.stops H q, hd H p⟩
/-- the dict of these codes to their signs -/
def signD (l : List Nat) : List (Key × V) := l.foldl (fun kvs (c : Nat) => putK kvs (.inl (c : Int)) (.str (ofL [c]))) []
theorem signD_len : ∀ (l : List Nat) (kvs : List (Key × V)), (l.foldl (fun kvs (c : Nat) => putK kvs (.inl (c : Int)) (.str (ofL [c]))) kvs).length ≤ kvs.length + l.length
  | [], kvs => Nat.le_refl _
  | c :: r, kvs => by
    have h1 := signD_len r (putK kvs (.inl (c : Int)) (.str (ofL [c])))
    have h2 := length_putK kvs (.inl (c : Int)) (.str (ofL [c]))
    rw [List.foldl_cons, List.length_cons]
    omega
theorem signD_val : ∀ (l : List Nat) (kvs : List (Key × V)) (i : Int), valV (l.foldl (fun kvs (c : Nat) => putK kvs (.inl (c : Int)) (.str (ofL [c]))) kvs) (.inl i) = if 0 ≤ i ∧ i.toNat ∈ l then some (.str (ofL [i.toNat])) else valV kvs (.inl i)
  | [], kvs, i => by simp
  | c :: r, kvs, i => by
    rw [List.foldl_cons, signD_val r, valV_put]
    by_cases h0 : 0 ≤ i ∧ i.toNat ∈ r
    · rw [if_pos h0, if_pos ⟨h0.1, List.mem_cons_of_mem _ h0.2⟩]
    · rw [if_neg h0]
      by_cases h1 : (Sum.inl i : Key) = Sum.inl (c : Int)
      · have e : i = (c : Int) := Sum.inl.inj h1
        subst e
        rw [if_pos rfl, if_pos ⟨Int.natCast_nonneg c, by rw [Int.toNat_natCast]; exact List.mem_cons_self ..⟩, Int.toNat_natCast]
      · rw [if_neg h1, if_neg]
        rintro ⟨a, b⟩
        rcases List.mem_cons.mp b with e | e
        · exact h1 (by rw [show i = (c : Int) by omega])
        · exact h0 ⟨a, e⟩
theorem sign_get (l : List Nat) (i : Int) : valV (signD l) (.inl i) = if 0 ≤ i ∧ i.toNat ∈ l then some (.str (ofL [i.toNat])) else none := by
  unfold signD
  rw [signD_val]
  rfl
/-- slices of any list -/
def cutA {α : Type} (xs : List α) (lo hi : Option Int) : List α := (xs.drop (HT.sIx xs.length 0 lo)).take (HT.sIx xs.length xs.length hi - HT.sIx xs.length 0 lo)
theorem cutI (ns : List Int) (lo hi : Option Int) : cutV (ns.map V.int) lo hi = (cutA ns lo hi).map V.int := by
  unfold cutV cutA
  rw [List.length_map, List.map_take, List.map_drop]
theorem cutA_len {α : Type} (xs : List α) (lo hi : Option Int) : (cutA xs lo hi).length ≤ xs.length := by
  unfold cutA
  rw [List.length_take, List.length_drop]
  omega
theorem cutA_nat {α : Type} (xs : List α) (i j : Nat) (hi : i ≤ xs.length) (hj : j ≤ xs.length) : cutA xs (some (i : Int)) (some (j : Int)) = (xs.drop i).take (j - i) := by
  unfold cutA
  rw [HT.sIx_nat, HT.sIx_nat, Nat.min_eq_left hi, Nat.min_eq_left hj]
theorem cutA_head {α : Type} (xs : List α) (j : Nat) (hj : j ≤ xs.length) : cutA xs none (some (j : Int)) = xs.take j := by
  unfold cutA
  rw [HT.sIx_nat, Nat.min_eq_left hj]
  show (xs.drop 0).take (j - 0) = _
  rw [List.drop_zero, Nat.sub_zero]
theorem cutA_tail {α : Type} (xs : List α) (j : Nat) (hj : j ≤ xs.length) : cutA xs (some (j : Int)) none = xs.drop j := by
  unfold cutA
  rw [HT.sIx_nat, Nat.min_eq_left hj]
  show (xs.drop j).take (xs.length - j) = _
  rw [List.take_of_length_le (by rw [List.length_drop]; exact Nat.le_refl _)]
theorem cutA_last {α : Type} (xs : List α) (lo : Option Int) (n : Nat) (h : xs.length = n + 1) : cutA xs lo (some (-1)) = cutA xs lo (some (n : Int)) := by
  have e : HT.sIx xs.length xs.length (some (-1)) = HT.sIx xs.length xs.length (some (n : Int)) := by
    rw [HT.sIx_nat, h]
    show (if (-1 : Int) < 0 then ((-1 : Int) + ((n + 1 : Nat) : Int)).toNat else min (-1 : Int).toNat (n + 1)) = min n (n + 1)
    have c : (-1 : Int) < 0 := by decide
    rw [if_pos c]
    omega
  unfold cutA
  rw [e]
theorem cutS_ofL (cs : List Nat) (lo hi : Option Int) : cutS (ofL cs) lo hi = ofL (cutA cs lo hi) := by
  have e : (ofL cs).length = cs.length := ofL_len cs
  have e2 : (ofL cs).cps.toList = cs := tl_ofL cs
  unfold cutS cutA
  rw [e, e2]
  rfl
theorem cutA_mid {α : Type} (xs : List α) (i j : Nat) : cutA xs (some (i : Int)) (some (j : Int)) = (xs.drop i).take (j - i) := by
  unfold cutA
  rw [HT.sIx_nat, HT.sIx_nat]
  refine List.ext_getElem? fun k => ?_
  simp only [List.getElem?_take, List.getElem?_drop]
  by_cases h : i + k < xs.length
  · rw [Nat.min_eq_left (show i ≤ xs.length by omega)]
    by_cases h2 : k < j - i
    · rw [if_pos h2, if_pos (by omega)]
    · rw [if_neg h2, if_neg (by omega)]
  · rw [List.getElem?_eq_none (show xs.length ≤ i + k by omega)]
    by_cases h3 : i ≤ xs.length
    · rw [Nat.min_eq_left h3, List.getElem?_eq_none (show xs.length ≤ i + k by omega)]
      split <;> split <;> rfl
    · rw [Nat.min_eq_right (show xs.length ≤ i by omega), List.getElem?_eq_none (show xs.length ≤ xs.length + k by omega)]
      split <;> split <;> rfl
theorem rep_flat (n : Nat) (x : Int) : (List.replicate n [V.int x]).flatten = (List.replicate n x).map V.int := by
  induction n with
  | zero => rfl
  | succ n ih =>
    rw [List.replicate_succ, List.flatten_cons, ih, List.replicate_succ, List.map_cons]
    rfl
/-- the text that a def's first row sets -/
def litOf : List Stmt → Str
  | .Assign _ (.Constant (.str s) _ _) _ :: _ => s
  | _ => ""
theorem atI_get {b : List Int} {i : Nat} (h : i < b.length) : atI (b.map V.int) (i : Int) = some (.int (b.getD i 0)) := by
  refine atI_nat (j := i) ?_
  rw [List.getElem?_map, List.getElem?_eq_getElem h]
  simp [List.getD_eq_getElem?_getD, List.getElem?_eq_getElem h]
end LB

set_option maxRecDepth 100000
set_option maxHeartbeats 4000000
namespace LB
open PySem PySem.W PySem.Calls PyProof.Rows PySem.HandSPX
/-! ### an own error whose __init__ calls super with an f-string of a name and keeps the name -/
def eA (p1 p2 : Pos) : Arguments := { posonlyargs := [], args := [{ arg := "self", annotation := none, pos := p1 }, { arg := "name", annotation := none, pos := p2 }], vararg := none, kwonlyargs := [], kw_defaults := [], kwarg := none, defaults := [] }
def eB (tx : String) (k0 : Nat) (q1 q2 q3 q4 q5 q6 q7 q8 q9 q10 q11 q12 q13 : Pos) : List Stmt :=
  [.Expr (.Call (.Attribute (.Call (.Name "super" q1) [] [] q2) "__init__" q3) [.JoinedStr [.FormattedValue (.Name "name" q4) (-1) none q5, .Constant (.str tx) k0 q6] q7] [] q8) q9,
   .Assign [.Attribute (.Name "self" q10) "name" q11] (.Name "name" q12) q13]
def eS : Scope := { kind := .function, names := [(PySem.Str.ofString "self", .local), (PySem.Str.ofString "name", .local), (PySem.Str.ofString "__class__", .free), (PySem.Str.ofString "super", .globalImplicit)], isGenerator := false, isCoroutine := false, more := [] }
abbrev veMro : List Value := [.type "ValueError", .type "Exception", .type "BaseException", .type "object"]
/-- what the written part says of the class named n, at C, and of its __init__, at fI -/
structure Oor (K : Frag) (mg : Str → Option Value) (prog : Program) (n : Str) (C fI cc cda : Addr) : Prop where
  gC : mg n = some (.ref C)
  cls : ∃ nm q N bs bm sn sub ab col dd k0 k1 k2 k3 k5, K.lookup C = some (excClassObj nm q C N bs bm true sn sub ab col dd k0 k1 k2 k3 k5 "ValueError.__new__") ∧ refsVE bm = true
  sa : findIn K (.ref C) "__setattr__" = some (some (.builtin "object.__setattr__"))
  ga : findIn K (.ref C) "__getattribute__" = some (some (.builtin "BaseException.__getattribute__"))
  gg : findIn K (.ref C) "__getattr__" = some none
  noN : findIn K (.ref C) "name" = some none
  iC : findIn K (.ref C) "__init__" = some (some (.ref fI))
  tC : typeIn K (.ref fI) = some (.type "function")
  kC : keepIn K (.ref C) = true
  exC : subIn K (.ref C) (.type "BaseException") = some true
  veC : subIn K (.ref C) (.type "ValueError") = some true
  tyC : typeIn K (.ref C) = some (.type "type")
  hdC : hasDictIn K C = true
  me : mroIn K C (.ref C) = some true
  up : ks_superIn K C C "__init__" = some (some (.builtin "ValueError.__init__"))
  made : excInitIn K C veMro "ValueError.__new__" = true
  op : nsIn K cStatics "thirdparty.any" = some none
  mgS : mg "super" = none
  top : (prog.main.scope.names.lookup ("super" : Str)).isSome = false
  cell : ∃ (cl : Value) (cld : Option Addr) (csl : Array (Option Value)), K.lookup cc = some ⟨cl, cld, .cell (some (.ref C)), csl⟩
  code : ∃ (ccl : Value) (cdd : Option Addr) (vs : Array Value) (ccs : Array (Option Value)) (file : Str) (tf : Tok), K.lookup cda = some ⟨ccl, cdd, .fields vs, ccs⟩ ∧ vs[2]? = some (.str file tf) ∧ ((prog.main.file : Str) == file) = true
  fn : ∃ (oc : Value) (od : Option Addr) (q : Str) (doc pm : Value) (an : Option Addr) (ct : Value) (osl : Array (Option Value)) (tx : String) (k0 : Nat) (p1 p2 q1 q2 q3 q4 q5 q6 q7 q8 q9 q10 q11 q12 q13 : Pos),
    K.lookup fI = some ⟨oc, od, .func (ksFn "__init__" q (eA p1 p2) (eB tx k0 q1 q2 q3 q4 q5 q6 q7 q8 q9 q10 q11 q12 q13) eS .none .none doc pm an (.ref cda) ct cc), osl⟩ ∧ codeIn K (.ref cda) q = true ∧ (Str.ofString tx).length ≤ 1000 ∧ (q3.endLine == q8.line) = true
/-- what __init__ leaves of a fresh error at x -/
structure ErrEnd (h h' : Heap) (x C dx : Addr) (v : Value) : Prop where
  keep : ∀ b o, b ≠ x → h.get? b = some o → h'.get? b = some o
  obj : ∃ t1 : Addr, h'.get? x = some { cls := .ref C, dict := some dx, data := .fields #[.ref t1, .none, .none, .none, .bool false, .none] }
  dbig : h.objs.size ≤ dx
  dne : dx ≠ x
  ns : h'.Ns1 dx (fun y => if y = "name" then some v else none)
section
variable {prog : Program} {w : World} {A : Around} {R : Result → Shared → Prop} {s : Shared} {K : Frag} {mg : Str → Option Value} {n : Str} {C fI cc cda : Addr}
theorem err_init (T : Oor K mg prog n C fI cc cda) {base : Heap} {x t0 : Addr} {z : Str} {zt : Tok} (kb : K.In base) (gb : base.Ns mainGlobals mg) (bb : ∃ mb, base.Ns builtinsNs mb ∧ ∀ y : Str, y ≠ "__name__" → mb y = bootBuiltins y)
    (bk : ∀ b o, base.get? b = some o → s.heap.get? b = some o) (bsz : base.objs.size ≤ s.heap.objs.size) (nx : base.get? x = none) (lim : s.heap.NoLimit) (hx : s.heap.get? x = some (excO C t0)) (hz : z.length ≤ 1000) (room : A.depth < recursionLimit)
    (hq : ∀ h' tk dx zt', ErrEnd s.heap h' x C dx (.str z zt') → R (.ok (.ret .none)) { s with heap := h', toks := tk }) :
    codeAny (model prog w) A (.call (.ref fI) ⟨[.ref x, .str z zt], []⟩) R s := by
  obtain ⟨oc, od, q, doc, pm, an, ct, osl, tx, k0, p1, p2, q1, q2, q3, q4, q5, q6, q7, q8, q9, q10, q11, q12, q13, ho, hcd, htx, hln⟩ := T.fn
  obtain ⟨nm, qn, N0, bs, bm, sn, sub, ab, col, dd, e0, e1, e2, e3, e5, hC, hbm⟩ := T.cls
  have hcl : clsIn K C = some { name := nm, bases := bs, mro := .ref C :: bm, ns := N0, qualname := qn, hasDict := true, slotNames := sn, subclasses := sub, abstract := ab, collection := col, hasDel := false } := by unfold clsIn; rw [hC] <;> rfl
  obtain ⟨cl, cld, csl, hcell⟩ := T.cell
  obtain ⟨ccl, cdd, vs, ccs, file, tf, hcode, hvs, hfile⟩ := T.code
  obtain ⟨mb, hmb, hboot⟩ := bb
  have X : K.In s.heap := kb.keeps bk
  obtain ⟨hp, g, dr, tk, os⟩ := s
  refine ks_codeAny_call_defAt (fd := ksFn "__init__" q (eA p1 p2) (eB tx k0 q1 q2 q3 q4 q5 q6 q7 q8 q9 q10 q11 q12 q13) eS .none .none doc pm an (.ref cda) ct cc) (body := eB tx k0 q1 q2 q3 q4 q5 q6 q7 q8 q9 q10 q11 q12 q13) (binds := [("self", .ref x), ("name", .str z zt)])
    room (X _ _ ho) rfl lim (codeRec_of X hcd) rfl (BindsTo.of_eq (by first | rfl | with_unfolding_all rfl)) (show ∀ y ∈ eS.names, y.2 ≠ .cell from by decide +kernel) (show ∀ y ∈ [(("self" : Str), Value.ref x), (("name" : Str), Value.str z zt)], eS.names.lookup y.1 = some .local from locs rfl) (fun h₁ hns hk₁ => ?_) rfl rfl rfl
  have X₁ : K.In h₁ := X.keeps hk₁
  have hx₁ := hk₁ _ _ hx
  have hxL : x ≠ hp.objs.size := Nat.ne_of_lt (Heap.lt_size hx)
  have inG : ∀ b o, base.get? b = some o → (hp.hide x).get? b = some o := fun b o e => (Heap.hide_ne hp (fun z => by rw [z, nx] at e; cases e)).trans (bk b o e)
  have kG : K.In (hp.hide x) := kb.keeps inG
  have F₁ : Fr (hp.hide x) hp.objs.size h₁ _ := ⟨hns, fun b o e => hk₁ b o (Heap.of_hide e), Nat.le_of_eq (Heap.hide_size hp x)⟩
  have N₁ : News (hp.hide x) hp.objs.size h₁ [(x, excObj C t0 none .none)] := fun p hp' => by
    have e := List.mem_singleton.mp hp'
    subst e
    exact ⟨hx₁, hxL, Heap.hide_self hp x⟩
  refine ks_wpAt_execs_cons (ks_wpAt_Expr_any ?_)
  refine ks_wpAt_MethodCall (pl := (do return (← importBound _ _).getD true)) ?_ (he := by
    show (do
      let ov ← attributeBase _ _ _ _
      standAt q3.atName
      methodCall _ _ q3 q8 _ ov _ _ _) = _
    simp only [methodCall, methodCallPos, hln, Bool.or_true, if_true, pure_bind]
    rfl)
  refine ks_wpAt_super_base (f := fI) (cc := cda) (by first | rfl | decide +kernel) (by first | rfl | decide +kernel) (by decide +kernel) rfl (X₁ _ _ ho) rfl rfl rfl (X₁ _ _ hcode) rfl hvs hfile T.top ?_
  refine ks_loadName_global rfl (by first | rfl | decide +kernel) (loadGlobal_builtin (gb.keeps fun b o e => F₁.keep b o (inG b o e)) T.mgS (hmb.keeps fun b o e => F₁.keep b o (inG b o e)) ((hboot _ (by decide +kernel)).trans PyProof.Rows.Boot.«super») ⟨rfl, ?_⟩)
  refine wpAny_loadName_free rfl (by first | rfl | decide +kernel) rfl ⟨_, X₁ _ _ hcell, rfl⟩ ?_
  refine wpAny_loadName_local rfl (by first | rfl | decide +kernel) hns (show _ = some (Value.ref x) from by first | rfl | with_unfolding_all rfl | kernel_rfl) ?_
  refine ks_wpAny_isType_cls (X₁ _ _ hC) rfl ⟨rfl, ?_⟩
  refine ks_wpAny_call_super (X₁ _ _ hC) rfl hx₁ rfl (fun c e => nomatch e) (looks_mroIn X₁ T.me) (fun h₂ e₂ k₂ => ?_)
  obtain ⟨F₂, N₂, l₂⟩ := ks_newsPush (s := ⟨h₁, g, dr, tk + 2, os⟩) F₁ N₁ rfl e₂ k₂
  refine kxs_method kxs_ValueError F₂ kG N₂ (List.mem_cons_self ..) (InstAt.of_exc0 N₂ (List.mem_cons_of_mem _ (List.mem_cons_self ..))) T.op T.up T.veC (by decide +kernel) (fun u h₃ F₃ N₃ l₃ => ?_)
  refine kxs_callWith1 N₃ (List.mem_cons_self ..) ?_ (he := rfl) (hplain := rfl)
  show wpAny _ _ (spliced ((false, eval (.JoinedStr [.FormattedValue (.Name "name" q4) (-1) none q5, .Constant (.str tx) k0 q6] q7) (ksEnv q eS hp.objs.size fI (.ref cda) cc)) :: backTo q8 (starEach [] (ksEnv q eS hp.objs.size fI (.ref cda) cc)))) _ _ _
  refine Calls.spliced_cons (wpAny_JoinedStr ?_)
  have so_u : hp.objs.size ≠ x := Ne.symm hxL
  have ux : u ≠ x := fun z => by
    have := l₃ (x, excObj C t0 none .none) (List.mem_cons_of_mem _ (List.mem_cons_self ..))
    rw [z] at this
    exact absurd this (Nat.lt_irrefl _)
  have sx : h₁.objs.size ≠ x := fun z => by
    have := l₂ (x, excObj C t0 none .none) (List.mem_cons_self ..)
    rw [z] at this
    exact absurd this (Nat.lt_irrefl _)
  have U : UpdF x (excObj C t0 none .none) [(u, kxs_mw "ValueError.__init__" x), (h₁.objs.size, ks_superObj C x C), (x, excObj C t0 none .none)] (fun o' => (u, kxs_mw "ValueError.__init__" x) :: (h₁.objs.size, ks_superObj C x C) :: (x, o') :: []) :=
    .tail ux (.tail sx (.head (by simp)))
  show Joins _ _ _ (eval (.FormattedValue (.Name "name" q4) (-1) none q5) (ksEnv q eS hp.objs.size fI (.ref cda) cc) :: evalEach [.Constant (.str tx) k0 q6] (ksEnv q eS hp.objs.size fI (.ref cda) cc)) Str.empty _ _
  have hz2 : z.length ≤ sizeLine := Nat.le_trans hz (by decide)
  have len0 : (Str.empty ++ z).length ≤ sizeLine := by
    have e1 : (Str.empty : Str).length = 0 := rfl
    rw [Str.length_append, e1, sizeLine_eq]
    omega
  refine wpAny_FormattedValue_plain (ESX.ldL (v := .str z zt) F₃.ns (by first | rfl | with_unfolding_all rfl | kernel_rfl) ?_)
  refine wpAny_formatField_str ⟨_, _, rfl, len0, ?_⟩ ⟨_, _, rfl, len0, ?_⟩ hz2
  all_goals
    have e0 : evalEach [.Constant (.str tx) k0 q6] (ksEnv q eS hp.objs.size fI (.ref cda) cc) = [eval (.Constant (.str tx) k0 q6) (ksEnv q eS hp.objs.size fI (.ref cda) cc)] := by first | rfl | simp [evalEach]
    rw [e0]
    have len : (Str.empty ++ z ++ (tx : Str)).length ≤ sizeLine := by
      have e1 : (Str.empty : Str).length = 0 := rfl
      rw [Str.length_append, Str.length_append, e1, sizeLine_eq]
      have := htx
      omega
    refine wpAny_Constant_str ⟨_, _, rfl, len, ?_⟩
    refine ⟨len, Calls.spliced_nil ⟨kxs_at N₃ (List.mem_cons_self ..), ?_⟩⟩
    refine kxs_call F₃ kG N₃ PySem.F.excBase_ValueError T.made (List.mem_cons_self ..) U (by show 1 ≤ sizeLine; decide) (fun t1 h₄ F₄ N₄ l₄ => ?_)
    have hx₄ : h₄.get? x = some (excObj C t1 none .none) := (N₄ (x, excObj C t1 none .none) (by simp)).1
    have X₄ : K.In h₄ := kG.keeps F₄.keep
    refine wpAt_of_wpAny ?_
    refine wpAny_execs_cons (plainObj_wpAny_Assign_Attribute ?_)
    refine ESX.ldL (v := .str z zt) F₄.ns (by first | rfl | with_unfolding_all rfl | kernel_rfl) (ESX.ldL (v := .ref x) F₄.ns (by first | rfl | with_unfolding_all rfl | kernel_rfl) ?_)
    refine set_plain X₄ (ox := excO C t1) (od := none) ⟨hx₄, rfl, rfl, trivial⟩ T.sa ?_
    refine exc_osa X₄ hx₄ hcl (show refsVE (.ref C :: bm) = true from hbm) rfl T.noN (fun h₅ tk₅ dx k₅ dn dne hx₅ hn₅ => ?_)
    show wpAny _ _ (execs _ _) _ _ _
    refine wpAny_execs_nil (hq h₅ tk₅ dx zt ⟨fun b o hb e => k₅ b o hb (F₄.keep b o ((Heap.hide_ne hp hb).trans e)), ⟨t1, hx₅⟩, ?_, dne, hn₅⟩)
    refine Nat.le_trans ?_ dn
    obtain ⟨oL, es, ep, hL, _⟩ := F₄.ns
    exact Nat.le_of_lt (Heap.lt_size hL)
end
end LB

set_option maxRecDepth 100000
set_option maxHeartbeats 4000000
namespace LB
open PySem PySem.W PySem.Calls PyProof.Rows PySem.HandSPX
/-- a made error at e, its own dict at d -/
structure ErrMade (h h' : Heap) (e C d : Addr) (v : Value) : Prop where
  keep : ∀ b o, h.get? b = some o → h'.get? b = some o
  new : h.objs.size ≤ e
  obj : ∃ oe vs, h'.get? e = some oe ∧ oe.cls = .ref C ∧ oe.dict = some d ∧ oe.data = .fields vs ∧ vs[1]? = some .none
  dbig : h.objs.size ≤ d
  dne : d ≠ e
  ns : h'.Ns1 d (fun y => if y = "name" then some v else none)
section
variable {prog : Program} {w : World} {A : Around} {R : Result → Shared → Prop} {s : Shared} {K : Frag} {mg : Str → Option Value} {n : Str} {C fI cc cda : Addr}
theorem err_made (T : Oor K mg prog n C fI cc cda) {base : Heap} {z : Str} {zt : Tok} (kb : K.In base) (gb : base.Ns mainGlobals mg) (bb : ∃ mb, base.Ns builtinsNs mb ∧ ∀ y : Str, y ≠ "__name__" → mb y = bootBuiltins y)
    (bk : ∀ b o, base.get? b = some o → s.heap.get? b = some o) (bsz : base.objs.size ≤ s.heap.objs.size) (lim : s.heap.NoLimit) (hz : z.length ≤ 1000) (room : A.depth + 1 < recursionLimit)
    (hq : ∀ h' tk e d zt', ErrMade s.heap h' e C d (.str z zt') → R (.ok (.ret (.ref e))) { s with heap := h', toks := tk }) :
    codeAny (model prog w) A (.call (.ref C) ⟨[.str z zt], []⟩) R s := by
  obtain ⟨nm, q, N, bs, bm, sn, sub, ab, col, dd, k0, k1, k2, k3, k5, hC, hbm⟩ := T.cls
  obtain ⟨hp, g, dr, tk, os⟩ := s
  have X : K.In hp := kb.keeps bk
  have k : ∀ b o, hp.get? b = some o → ((hp.push (kdv_tup [.str z zt])).push (excO C hp.objs.size)).get? b = some o := fun b o e => Heap.get?_push_of_some _ (Heap.get?_push_of_some _ e)
  have hget : ((hp.push (kdv_tup [.str z zt])).push (excO C hp.objs.size)).get? (hp.objs.size + 1) = some (excO C hp.objs.size) := by heap_get
  have nx : base.get? (hp.objs.size + 1) = none := Heap.get?_none_of_le (Nat.le_trans bsz (Nat.le_succ _))
  refine call_own PySem.F.excBase_ValueError (fun Y => refsVE_contains Y bm hbm) (X _ _ hC) (looks_findIn X T.iC) (fun self => bind_fn X self T.tC) (by show 1 ≤ sizeLine; decide) ?_
  refine err_init (s := ⟨(hp.push (kdv_tup [.str z zt])).push (excO C hp.objs.size), g, dr, tk, os⟩) T kb gb bb (fun b o e => k b o (bk b o e)) (Nat.le_trans (show base.objs.size ≤ hp.objs.size from bsz) (by simp only [Heap.size_push]; omega)) nx (lim.keeps k) hget hz ?_ fun h' tk' dx zt' W => ?_
  · show A.depth + 1 < recursionLimit
    exact room
  · obtain ⟨t1, hx⟩ := W.obj
    have old : ∀ b o, hp.get? b = some o → h'.get? b = some o := fun b o e => W.keep b o (Nat.ne_of_lt (Nat.lt_succ_of_lt (Heap.lt_size e))) (k b o e)
    have dn : hp.objs.size ≤ dx := by
      have y := W.dbig
      simp only [Heap.size_push] at y
      omega
    exact ⟨rfl, hq h' tk' (hp.objs.size + 1) dx zt' ⟨old, Nat.le_succ _, ⟨_, _, hx, rfl, rfl, rfl, rfl⟩, dn, W.dne, W.ns⟩⟩
end
end LB
namespace LB
open PySem PySem.Spec PyProof.Rows L2
theorem relO_name {v : V} {v' : Value} (r : RelV v v') (f : Str) : RelO (List.lookup f [(("name" : Str), v)]) (if f = "name" then some v' else none) := by
  by_cases hw : f = "name"
  · subst hw
    rw [if_pos rfl]
    have q : List.lookup ("name" : Str) [(("name" : Str), v)] = some v := by simp [List.lookup]
    rw [q]
    exact r
  · rw [if_neg hw]
    have qw : (f == ("name" : Str)) = false := by simpa using hw
    have q2 : List.lookup f [(("name" : Str), v)] = none := by simp [List.lookup, qw]
    rw [q2]
    trivial
section
variable {X : Cx} {n : Str} {C fI cc cda : Addr}
/-- Err(e), e a text of at most 1000 signs -/
def tMkErr (C : Addr) (ta : TA) : L2.St → Hp → XK → Prop := fun σ H Q => ta σ H fun vs H1 => ∃ z : Str, vs = [.str z] ∧ z.length ≤ 1000 ∧ ∀ d, H1 d = none → Q (.ref C) (some d) (upd H1 d (.xd [(("name" : Str), .str z)]))
theorem pmk_err {a : Expr} {ta : TA} {p pos : Pos} {k : Nat} (T : Oor X.K X.mg X.prog n C fI cc cda) (hr : Room k X.A) (ha : PA X [a] ta) (hg : Gl X n) (hd : (n == ("__debug__" : Str)) = false)
    (he : starEach (a :: []) X.env = (false, eval a X.env) :: starEach [] X.env := by rfl) (hpl : (backTo pos (starEach [] X.env)).any (·.1) = false := by rfl) :
    PMk X (.Call (.Name n p) [a] [] pos) (tMkErr C ta) := by
  intro pins s σ H Q I h
  refine wpAny_Call_Name_kw (ld_glob I hg T.gC ?_ hd)
  refine PySem.W.callWith_K (h₀ := X.base) I.ok.mod.kin T.kC (thn (ha.run pos pins s σ H _ I h) fun us s1 hh => ?_) he hpl
  obtain ⟨vs, H1, I1, r1, z, ev, hz, q1⟩ := hh
  subst ev
  refine ⟨I1.kIn, ?_⟩
  cases r1 with
  | cons rv rn =>
    rename_i v' us'
    cases rn
    obtain ⟨zt, rfl⟩ := rv
    show wpAny _ _ (call (.ref C) [.str z zt]) _ _ _
    have hlim := I1.nolimit
    have kin := I1.ok.mod
    have bk := I1.bk
    have bsz : X.base.objs.size ≤ s1.heap.objs.size := Nat.le_trans I1.ok.bsz I1.sz
    obtain ⟨hp, g, dr, tk, os⟩ := s1
    obtain ⟨m1, m2, m3, m4⟩ := kin
    refine wpAny_call (err_made T m1 m2 m3 bk bsz hlim hz (by have := hr.dp; omega) fun h' tk' e d zt' M => ?_)
    show MkP X pins σ Q (.ref e) ⟨h', g, dr, tk', os⟩
    obtain ⟨oe, fv, hoe, hc, hd, hdat, h1⟩ := M.obj
    have hns := M.ns
    obtain ⟨G', g1, g2⟩ := restrict h' fun b => decide (b ≠ e)
    have gk : ∀ b, b ≠ e → G'.get? b = h'.get? b := fun b hb => g1 b (decide_eq_true hb)
    have ge : G'.get? e = none := g2 e (by simp)
    have old : ∀ b o, hp.get? b = some o → G'.get? b = some o := fun b o q => (gk b (Nat.ne_of_lt (Nat.lt_of_lt_of_le (Heap.lt_size q) M.new))).trans (M.keep b o q)
    have ob : ObjOk X.prog X.w (upd H1 d (.xd [(("name" : Str), .str z)])) G' d (.xd [(("name" : Str), .str z)]) :=
      ⟨_, hns.at (fun o q => (gk d M.dne).trans q), fun f => relO_name (v := .str z) (v' := .str z zt') ⟨zt', rfl⟩ f⟩
    have J : Inv X pins σ (upd H1 d (.xd [(("name" : Str), .str z)])) ⟨G', g, dr, tk', os⟩ := I1.laid (t' := tk') old M.dbig ob
    refine ⟨e, oe, fv, ⟨G', g, dr, tk', os⟩, _, .ref C, some d, rfl, J, fun b o q => ?_, ge, hoe, ⟨hc, hd⟩, hdat, h1, ?_, rfl, I1.bare, raises_own T.exC T.tyC, q1 d (I1.hok.fresh M.dbig)⟩
    · by_cases hb : b = e
      · have q' : G'.get? b = some o := q
        rw [hb, ge] at q'; cases q'
      · exact (gk b hb).symm.trans q
    · rw [upd_ne (Ne.symm M.dne)]
      exact I1.hok.fresh M.new
/-- raise Err(e) -/
def tRaiseErr (C : Addr) (W : WX) (ta : TA) : TS := fun _ σ H => tMkErr C ta σ H fun cls d H' => W cls d σ H'
theorem ps_raiseErr {a : Expr} {ta : TA} {W : WX} {p pos pos2 : Pos} {k : Nat} (hc : X.calm = true) (T : Oor X.K X.mg X.prog n C fI cc cda) (hr : Room k X.A) (tk : Takes X W) (ha : PA X [a] ta) (hg : Gl X n) (hd : (n == ("__debug__" : Str)) = false)
    (he : starEach (a :: []) X.env = (false, eval a X.env) :: starEach [] X.env := by rfl) (hpl : (backTo pos (starEach [] X.env)).any (·.1) = false := by rfl) :
    PS X (.Raise (some (.Call (.Name n p) [a] [] pos)) none pos2) (tRaiseErr C W ta) := ps_raise hc tk (pmk_err T hr ha hg hd he hpl)
/-- e.name, e the error that the suite holds (at a; its class cls, its dict d) -/
def tErrName (C : Addr) (a : Addr) (cls : Value) (d : Option Addr) (te : TE) : TE := fun σ H Q => te σ H fun x H1 => x = .ref a ∧ cls = .ref C ∧ ∃ (dd : Addr) (v : V), d = some dd ∧ H1 dd = some (.xd [(("name" : Str), v)]) ∧ Q v H1
theorem pe_errName {a : Addr} {oe : Obj} {cls : Value} {d : Option Addr} {pn : List (Addr × Obj)} {e : Expr} {te : TE} {pos : Pos} (T : Oor X.K X.mg X.prog n C fI cc cda) (hz : Zc cls d oe) (hf : ∃ vs, oe.data = .fields vs) (he : PE (X.suite a ((a, oe) :: pn)) e te)
    (hb : attributeBase e "name" X.env (eval e X.env) = eval e X.env := by rfl) :
    PE (X.suite a ((a, oe) :: pn)) (.Attribute e "name" pos) (tErrName C a cls d te) := by
  refine ⟨fun pins s σ H Q I h => ?_⟩
  refine attr_of hb (thn (he.run pins s σ H _ I h) fun u s1 hh => ?_)
  obtain ⟨x, H1, I1, rx, ex, ec, dd, v, ed, ea, q⟩ := hh
  subst ex
  obtain rfl : u = Value.ref a := rx
  subst ec
  subst ed
  obtain ⟨ha, _⟩ := I1.pin (a, oe) (List.mem_append_left _ List.mem_cons_self)
  obtain ⟨vs, hd⟩ := hf
  have hx : ObjOk X.prog X.w H1 s1.heap dd (.xd [(("name" : Str), v)]) := I1.hok dd _ ea
  obtain ⟨mA, hns, hr⟩ := hx
  obtain ⟨od, ho, hl⟩ := lookIn_ns hns
  have l : List.lookup ("name" : Str) [(("name" : Str), v)] = some v := by simp [List.lookup]
  obtain ⟨u, hu, ru⟩ := RelO.some_of (v := v) (o := mA "name") (by rw [← l]; exact hr "name")
  have J : PySem.W.InstAt s1.heap a oe C (some od) := ⟨ha, hz.1, by unfold PySem.W.notCls; rw [hd] <;> rfl, by rw [hz.2]; exact ho⟩
  exact HandSPX.exc_get I1.kIn J T.ga T.gg T.exC (PySem.W.findObj_own T.hdC T.noN rfl (by rw [hl, hu])) (handed_of ru) ⟨v, H1, I1.tok _, ru, q⟩
/-- isinstance(e, D), e such an error, D a class: told of K -/
structure IsF (K : PySem.W.Frag) (C : Addr) : Prop where
  ha : PySem.W.findIn K (.ref C) "__class__" = some (some (.builtin "object.__class__"))
  hn : PySem.W.specialIn K (.builtin "object.__class__") "__get__" = some (some (.builtin "getset_descriptor.__get__"))
  ht : PySem.W.takesIn K (.builtin "object.__class__") = some true
  hm : PySem.W.mroIn K C (.type "object") = some true
def rIsErr (K : PySem.W.Frag) (C a : Addr) (cls : Value) (d : Option Addr) : List V → Hp → VK → Prop := fun xs H Q => ∃ (D dd : Addr) (b : Bool) (fs : List (Str × V)), xs = [.ref a, .ref D] ∧ cls = .ref C ∧ d = some dd ∧ PySem.W.kitOne K (.ref C) (.ref D) = some b ∧ H dd = some (.xd fs) ∧ Q (.bl b) H
theorem call_isErr {a : Addr} {cls : Value} {d : Option Addr} {oe : Obj} {pn : List (Addr × Obj)} (T : Oor X.K X.mg X.prog n C fI cc cda) (F : IsF X.K C) (hz : Zc cls d oe) (hf : ∃ vs, oe.data = .fields vs) : CallR (X.suite a ((a, oe) :: pn)) (.builtin "isinstance") (rIsErr X.K C a cls d) := by
  intro pins s σ H xs us Q I r h
  obtain ⟨D, dd, b, fs, rfl, rfl, rfl, e, ea, q⟩ := h
  match us, r with
  | _, .cons rx (.cons rt .nil) =>
    cases rx
    cases rt
    obtain ⟨hget, _⟩ := I.pin (a, oe) (List.mem_append.mpr (.inl List.mem_cons_self))
    obtain ⟨vs, hv⟩ := hf
    have hx : ObjOk X.prog X.w H s.heap dd (.xd fs) := I.hok dd _ ea
    obtain ⟨mA, hns, hr⟩ := hx
    obtain ⟨od, ho, hl⟩ := lookIn_ns hns
    have J : PySem.W.InstAt s.heap a oe C (some od) := ⟨hget, hz.1, by unfold PySem.W.notCls; rw [hv] <;> rfl, by rw [hz.2]; exact ho⟩
    obtain ⟨cd, hcd, _⟩ := PySem.W.any_some T.hdC
    exact PySem.W.kia_one (PySem.W.kitx_exc (od := some od) (ox := oe) (by rw [hcd]; rfl) T.ga T.gg T.exC F.ha F.hn F.ht F.hm) I.kIn J e (fun z => nomatch z) fun tk => ⟨.bl b, H, I.kept (t' := tk) fun _ _ z => z, rfl, q⟩
end
end LB

set_option maxRecDepth 100000
set_option maxHeartbeats 2000000
namespace LB
open PySem PySem.Spec PyProof.Rows L2
/-! ### what is never reached; promises of defs that raise nothing here -/
def tsNo : TS := fun _ _ _ => False
theorem pss_no {X : Cx} {st : List Stmt} : PSs X st tsNo := ⟨fun _ _ _ _ _ _ h => h.elim⟩
theorem ps_no {X : Cx} {st : Stmt} : PS X st tsNo := ⟨fun _ _ _ _ _ _ h => h.elim⟩
theorem pe_no {X : Cx} {e : PySem.Expr} : PE X e (fun _ _ _ => False) := ⟨fun _ _ _ _ _ _ h => h.elim⟩
theorem pg_tupK {X : Cx} {K : PySem.W.Frag} {pos : Pos} {es : List PySem.Expr} {k : Nat} {t : TGs} {n : Nat} (hK : X.K = K) (hc : X.calm = true) (h : PGs X es t) (h1 : (assignEach es X.env).length = n := by rfl) (h2 : List.findIdx? (fun x => x.fst) (assignEach es X.env) = none := by rfl) :
    PG X (.Tuple es k pos) (gTup K n t) := by
  subst hK
  exact pg_tup hc h h1 h2
section
variable {P : Program} {w : World} {K : PySem.W.Frag} {mg : Str → Option Value} {base : Heap} {k : Nat} {f : Addr} {fd : FuncData} {ps : List Str} {sp sp' : Sp}
theorem fn_calm (F : FnOk P w K mg base (L2.CX P w) k f fd ps sp) (h : ∀ vs H Q E, sp' vs H Q E → sp vs H Q (fun _ _ _ => False)) : FnOk P w K mg base CX0 k f fd ps sp' :=
  ⟨fun vs H Q E q => F.len vs H Q _ (h _ _ _ _ q), fun A outer s H args us vs Q E hr he hb hv hs => codeAny_mono (F.run A outer s H args us vs Q _ hr he hb hv (h _ _ _ _ hs)) fun r s' z => by
    match r, z with
    | .ok (.ret u), z => exact z
    | .error e, ⟨_, _, _, _, _, _, _, _, _, _, _, _, z⟩ => exact z.elim⟩
end
end LB

set_option maxRecDepth 100000
set_option maxHeartbeats 4000000
namespace LB
open PySem PySem.Spec PyProof.Rows L2
/-! ### C(e, ..) and o.m(e, ..) in a body whose handlers know the slots -/
section
variable {X : Cx} {CX : CXT} {k : Nat} {f C : Addr} {fd : FuncData} {ps : List Str} {sp : Sp} {E : L2.St → XK} {x m : Str} {p pos apos : Pos} {e o : Expr} {es : List Expr} {ta : TE} {t : TA}
theorem makeS {pins : List (Addr × Obj)} {σ : L2.St} {H : Hp} {s : Shared} {Q : VK} {us : List Value} {vs : List V} {E1 : XK} (M : Mk X.K C f) (F : FnOk X.prog X.w X.K X.mg X.base CX k f fd ps sp) (room : Room (k + 1) X.A) (bn : Binds X.K fd ps []) (go : PassesAt CX X σ E1)
    (I : Inv X pins σ H s) (r : Vals vs us) (want : ∀ x dx, H x = none → H dx = none → dx ≠ x → sp (.ref x :: vs) (upd (upd H dx (.own x)) x (.ins C dx [])) (fun v H2 => v = .non ∧ Q (.ref x) H2) E1) : wpAny (model X.prog X.w) X.A (call (.ref C) us) (EP X pins σ Q) X.xe s := by
  have w1 := want (s.heap.objs.size + 1) s.heap.objs.size (I.hok.fresh (Nat.le_succ _)) (I.hok.fresh (Nat.le_refl _)) (Nat.ne_of_lt (Nat.lt_succ_self _))
  have J := Inv.made (C := C) I
  have rr : Vals (V.ref (s.heap.objs.size + 1) :: vs) (Value.ref (s.heap.objs.size + 1) :: us) := .cons rfl r
  have ln : (Value.ref (s.heap.objs.size + 1) :: us).length = ps.length := rr.length ▸ F.len _ _ _ _ w1
  have b := bn _ (Value.ref (s.heap.objs.size + 1) :: us) J.kIn (by rw [List.append_nil]; exact ln)
  rw [List.append_nil] at b
  refine wpAny_call (make_map (f := f) I.kIn M.makes M.init (beq_iff_eq.mp M.fn) (codeAny_mono
    (F.run _ X.stack _ _ ⟨Value.ref (s.heap.objs.size + 1) :: us, []⟩ (Value.ref (s.heap.objs.size + 1) :: us) _ _ E1 (room.make C us []) (J.env0.make C us []) b rr w1) fun res s' h => ?_))
  match res, h with
  | .error e, h => exact go pins _ _ e s' J h
  | .ok (.ret u), h =>
    obtain ⟨v, H', J2, rv, ev, q3⟩ := J.after h
    subst ev
    exact ⟨rv, V.ref (s.heap.objs.size + 1), H', J2, rfl, q3⟩
  | .ok .next, h => exact False.elim h
  | .ok .brk, h => exact False.elim h
  | .ok .cont, h => exact False.elim h
def tMakeS (C : Addr) (sp : Sp) (E : L2.St → XK) (t : TA) : TE := fun σ H Q => t σ H fun vs H1 => ∀ x dx, H1 x = none → H1 dx = none → dx ≠ x → sp (.ref x :: vs) (upd (upd H1 dx (.own x)) x (.ins C dx [])) (fun v H2 => v = .non ∧ Q (.ref x) H2) (E σ)
theorem pe_makeS (M : Mk X.K C f) (F : FnOk X.prog X.w X.K X.mg X.base CX k f fd ps sp) (hr : Room (k + 1) X.A) (hg : Gl X x) (hm : X.mg x = some (.ref C)) (hb : Binds X.K fd ps []) (hx : ∀ σ, PassesAt CX X σ (E σ)) (ha : PA X (e :: es) t)
    (hdb : (x == ("__debug__" : Str)) = false := by decide) (he : starEach (e :: es) X.env = (false, eval e X.env) :: starEach es X.env := by rfl) (hpl : (backTo pos (starEach es X.env)).any (·.1) = false := by rfl) :
    PE X (.Call (.Name x p) (e :: es) [] pos) (tMakeS C sp E t) :=
  ⟨fun pins s σ H Q I h => wpAny_Call_Name_kw (ld_glob I hg hm (PySem.W.callWith_K (h₀ := X.base) I.ok.mod.kin M.kp (thn (ha.run pos pins s σ H _ I h) fun _ _ ⟨_, _, J, r, q⟩ => ⟨J.kIn, makeS M F hr hb (hx σ) J r q⟩) he hpl) hdb)⟩
def tMethT (C : Addr) (m : Str) (sp : Sp) (E : L2.St → XK) (ta : TE) (t : TA) : TE := fun σ H Q => ta σ H fun x H1 => ∃ a dx fs, x = .ref a ∧ H1 a = some (.ins C dx fs) ∧ fs.lookup m = none ∧ t σ H1 fun vs H2 => sp (x :: vs) H2 Q (E σ)
theorem pe_methT {pl : Sem Bool} (he : PE X o ta) (c : Cls X.K C) (hm : Meth X.K C m f) (F : FnOk X.prog X.w X.K X.mg X.base CX k f fd ps sp) (hr : Room k X.A) (hb : Binds X.K fd ps []) (hx : ∀ σ, PassesAt CX X σ (E σ)) (ha : PA X (e :: es) t)
    (hst : starEach (e :: es) X.env = (false, eval e X.env) :: starEach es X.env := by rfl) (hpl : (backTo pos (starEach es X.env)).any (·.1) = false := by rfl)
    (ht : eval (.Call (.Attribute o m apos) (e :: es) [] pos) X.env = (do
      let ov ← eval o X.env
      standAt apos.atName
      let (f, first) ← holding [ov] (getMethod ov m pl)
      callWith pos f first (backTo pos (starEach (e :: es) X.env)) (backToKw pos (keywordEach [] X.env))) := by rfl) : PE X (.Call (.Attribute o m apos) (e :: es) [] pos) (tMethT C m sp E ta t) :=
  ⟨fun pins s σ H Q I h => PySem.W.methodCall_KW (pl := pl) (thn (he.run pins s σ H _ I h) fun u s1 ⟨y, H1, J, ry, a, dx, fs, ey, ea, l, q⟩ => by
    subst ey
    cases (show u = Value.ref a from ry)
    exact getmeth_ok J ea c hm l (PySem.W.callWith_K (first := [.ref a]) (h₀ := X.base) J.ok.mod.kin hm.kp (thn (ha.run pos pins s1 σ H1 _ J q) fun us s2 ⟨vs, H2, J2, r, q2⟩ => ⟨J2.kIn, run_fnS (us := .ref a :: us) (vs := .ref a :: vs) F hr hb (hx σ) J2 (.cons rfl r) q2⟩) hst hpl)) ht⟩
end
end LB

set_option maxRecDepth 100000
set_option maxHeartbeats 4000000
namespace LB
open PySem PySem.Spec PyProof.Rows L2
/-! ### several except clauses, with names or without -/
/-- a clause: its class, the slot of its name, what its suite does -/
abbrev Clause := Value × Option Nat × (Addr → Value → Option Addr → TS)
def offE (D : Ends) (i : Nat) : Ends := { nx := fun σ H => D.nx (σ.set i none) H, rt := D.rt, bk := fun σ H => D.bk (σ.set i none) H, ct := fun σ H => D.ct (σ.set i none) H }
def suiteT (o : Option Nat) (ts : TS) (a : Addr) (D : Ends) (σ : L2.St) (H : Hp) : Prop :=
  match o with
  | none => ts D σ H
  | some i => ts (offE D i) (σ.set i (some (.ref a))) H
def wAny (K : PySem.W.Frag) (Wout : WX) (D : Ends) : List Clause → WX
  | [] => Wout
  | (c, o, ts) :: r => fun cls d σ H => ∃ b, PySem.W.exmOne K cls c = some b ∧ (b = true → ∀ a, H a = none → suiteT o (ts a cls d) a D σ H) ∧ (b = false → wAny K Wout D r cls d σ H)
inductive HdsA (X : Cx) : List ExceptHandler → List Clause → Prop
  | nil : HdsA X [] []
  | bare {x : Str} {c : Value} {ts : Addr → Value → Option Addr → TS} {b₀ : Stmt} {suite : List Stmt} {np pos' : Pos} {hds : List ExceptHandler} {l : List Clause} (hc : Names X x c)
      (hsu : ∀ (a : Addr) (oe : Obj) (cls : Value) (d : Option Addr) (pn : List (Addr × Obj)), Zc cls d oe → (∃ vs, oe.data = .fields vs) → PSs (X.suite a ((a, oe) :: pn)) (b₀ :: suite) (ts a cls d)) (r : HdsA X hds l) :
      HdsA X (.ExceptHandler (some (.Name x np)) none (b₀ :: suite) pos' :: hds) ((c, none, ts) :: l)
  | named {x n : Str} {i : Nat} {c : Value} {ts : Addr → Value → Option Addr → TS} {b₀ : Stmt} {suite : List Stmt} {np pos' : Pos} {hds : List ExceptHandler} {l : List Clause} (hi : X.N[i]? = some n) (hln : X.env.kindOf n = some .local) (hc : Names X x c)
      (hsu : ∀ (a : Addr) (oe : Obj) (cls : Value) (d : Option Addr) (pn : List (Addr × Obj)), Zc cls d oe → (∃ vs, oe.data = .fields vs) → PSs (X.suite a ((a, oe) :: pn)) (b₀ :: suite) (ts a cls d)) (r : HdsA X hds l) :
      HdsA X (.ExceptHandler (some (.Name x np)) (some n) (b₀ :: suite) pos' :: hds) ((c, some i, ts) :: l)
section
variable {X : Cx} {body : List Stmt} {h₀ : ExceptHandler} {hds : List ExceptHandler} {l : List Clause} {pos : Pos} {tb : WX → TS} {Wout : WX}
theorem ps_try_any (hs : X.stack = X.env :: X.outer) (hf : X.env.frame = some X.env.locals) (hN : X.N.Nodup) (tk : Takes X Wout)
    (hb : ∀ (W : WX) (pn : List (Addr × Obj)) (xe : Value → Shared → Prop), Takes (X.tr pn xe) W → PassesOwn (model X.prog X.w) X.A X.env xe → PSs (X.tr pn xe) body (tb W)) (hh : HdsA X (h₀ :: hds) l) :
    PS X (.Try body (h₀ :: hds) [] [] pos) (fun D σ H => tb (wAny X.K Wout D l) D σ H) := by
  constructor
  intro pins s σ H D I want
  have ok := I.ok
  have fr0 : X.A.frames = some (X.env :: X.outer) := ok.frames.trans (congrArg some hs)
  refine wpAny_Try_except (wpAny_mono ((hb (wAny X.K Wout D l) (X.pn ++ pins)
    (fun e t₁ => wpAny (model X.prog X.w) X.A (noteFrame e X.env) (fun _ t₂ => wpAny (model X.prog X.w) X.A (setFlight e none) (fun _ t₃ => wpAny (model X.prog X.w) X.A (handleBy e X.env (h₀ :: hds)) (SP X pins D) X.xe t₃) X.xe t₂) X.xe t₁)
    (fun u t xx => ?_) PassesOwn.looking).run [] s σ H D (I.toTry _) want) (fun f t z => ?_) fun _ _ z => z)
  rotate_left
  · match f, z with
    | .next, ⟨σ1, H1, J, q⟩ => exact wpAny_execs_nil ⟨σ1, H1, J.ofTry ok, q⟩
    | .brk, ⟨σ1, H1, J, q⟩ => exact ⟨σ1, H1, J.ofTry ok, q⟩
    | .cont, ⟨σ1, H1, J, q⟩ => exact ⟨σ1, H1, J.ofTry ok, q⟩
    | .ret u, ⟨v1, σ1, H1, J, r, q⟩ => exact ⟨v1, σ1, H1, J.ofTry ok, r, q⟩
  obtain ⟨a, B, sI, pins', σ', H', cls, d, rfl, J', nb, up, sky, na, os, ag, wish⟩ := xx
  have J : Inv X pins σ' H' sI := J'.ofTry ok
  have sky2 : Sky B (X.env :: X.outer) a (Zc cls d) X.env.locals t.heap := hs ▸ sky
  show wpAny (model X.prog X.w) X.A (noteFrame (.ref a) X.env) _ _ _
  refine Sky.land Zc.steady fr0 hf sky2 fun h3 fl3 up3 => ?_
  have J3 : Inv X pins σ' H' { t with heap := h3 } := J.landed nb fl3.1 (up.trans up3) os ag
  obtain ⟨oe3, vs3, he3, hz3, hd3⟩ := fl3.there
  have off : a ∉ frs (X.env :: X.outer) := fun hm => by
    obtain ⟨_, o2, e2, no⟩ := fl3.2.2.1.mem hm
    cases he3.symm.trans e2
    exact no _ hd3
  have nL : a ≠ X.env.locals := fun z => off (List.mem_filterMap.mpr ⟨X.env, List.mem_cons_self, by rw [hf, z]⟩)
  have nF : a ∉ X.fs := fun hm => by
    obtain ⟨e, he, q⟩ := List.mem_filterMap.mp hm
    exact off (List.mem_filterMap.mpr ⟨e, List.mem_cons_of_mem _ he, q⟩)
  have S3 := J3.suite he3 hd3 na nL nF
  have go : ∀ {hs2 : List ExceptHandler} {l2 : List Clause}, HdsA X hs2 l2 → wAny X.K Wout D l2 cls d σ' H' → wpAny (model X.prog X.w) X.A (handleBy (.ref a) X.env hs2) (SP X pins D) X.xe { t with heap := h3 } := by
    intro hs2 l2 hk
    induction hk with
    | nil =>
      intro w0
      obtain ⟨k1, k2, k3, oe, vs, T, oT, ts', he, hz, hd, h1, hr⟩ := id fl3
      have fin : wpAny (model X.prog X.w) X.A (setFlight (.ref a) X.env.frame) (fun _ s4 => wpAny (model X.prog X.w) X.A (throw (.ref a) : Sem Flow) (SP X pins D) X.xe s4) X.xe { t with heap := h3 } := by
        rw [hf]
        exact HandSPX.setFlight_upZ fl3 fun h4 hh4 up4 => wpAny_throw (tk _ _ ⟨a, B, sI, pins, σ', H', cls, d, rfl, J, nb, (up.trans up3).trans up4, .inr (.inr (by rw [hs]; exact hh4)), na, os, ag, w0⟩)
      refine wpAny_handleBy_nil ?_
      unfold PySem.passOn
      refine wpAny_bind (wpAny_field he hd h1 ?_)
      rw [if_neg (show ¬ ((Value.ref T == Value.none) = true) by simp)]
      first | exact wpAny_bind (wpAny_pure (wpAny_bind fin)) | exact wpAny_bind fin
    | @bare x c ts b₀ suite np pos' hds2 l3 hc hsu r ih =>
      rintro ⟨b, hb1, yes, no⟩
      have LM := PySem.W.exm_one (M := model X.prog X.w) J3.kIn (show PySem.W.Looks (model X.prog X.w) h3 (typeOf (.ref a)) cls from fun A Q E s k q => wpAny_typeOf_ref (k _ _ he3) (by rw [hz3.1]; exact q)) hb1
      have test : ∀ {Q : Value → Shared → Prop} {E : Value → Shared → Prop}, Q c { t with heap := h3 } → wpAny (model X.prog X.w) (X.A.mark (some (.ref a))) (eval (.Name x np) X.env) Q E { t with heap := h3 } := fun {Q E} q => by
        obtain ⟨hg, hdbg, hm | ⟨hm, hv, hnn⟩⟩ := hc
        · exact ld_glob (X := X.suite a ((a, oe3) :: (X.pn ++ pins))) S3 hg hm q hdbg
        · exact ld_blt (X := X.suite a ((a, oe3) :: (X.pn ++ pins))) S3 hg hm hv q hnn hdbg
      refine wpAny_handleBy_cons (codeAny_handlers_test (test (LM.here ?_))) (by intro q; cases q)
      cases b with
      | false => exact ih (no rfl)
      | true =>
        refine codeAny_handlers_suite (HandSPX.lands_againZ fl3 fun h4 fl4 up4 => ?_)
        have J4 : Inv X pins σ' H' { t with heap := h4 } := J.landed nb fl4.1 ((up.trans up3).trans up4) os ag
        obtain ⟨oe4, vs4, he4, hz4, hd4⟩ := fl4.there
        refine wpAny_mono ((hsu a oe4 cls d (X.pn ++ pins) hz4 ⟨_, hd4⟩).run [] _ _ H' _ (J4.suite he4 hd4 na nL nF) (yes rfl a na)) (fun f s6 z => ?_) fun _ _ z => z.elim
        match f, z with
        | .next, ⟨σ6, H6, S6, q⟩ => exact ⟨_, _, S6.unsuite ok, q⟩
        | .brk, ⟨σ6, H6, S6, q⟩ => exact ⟨_, _, S6.unsuite ok, q⟩
        | .cont, ⟨σ6, H6, S6, q⟩ => exact ⟨_, _, S6.unsuite ok, q⟩
        | .ret u, ⟨v6, σ6, H6, S6, r6, q⟩ => exact ⟨_, _, _, S6.unsuite ok, r6, q⟩
    | @named x n i c ts b₀ suite np pos' hds2 l3 hi hln hc hsu r ih =>
      rintro ⟨b, hb1, yes, no⟩
      have LM := PySem.W.exm_one (M := model X.prog X.w) J3.kIn (show PySem.W.Looks (model X.prog X.w) h3 (typeOf (.ref a)) cls from fun A Q E s k q => wpAny_typeOf_ref (k _ _ he3) (by rw [hz3.1]; exact q)) hb1
      have test : ∀ {Q : Value → Shared → Prop} {E : Value → Shared → Prop}, Q c { t with heap := h3 } → wpAny (model X.prog X.w) (X.A.mark (some (.ref a))) (eval (.Name x np) X.env) Q E { t with heap := h3 } := fun {Q E} q => by
        obtain ⟨hg, hdbg, hm | ⟨hm, hv, hnn⟩⟩ := hc
        · exact ld_glob (X := X.suite a ((a, oe3) :: (X.pn ++ pins))) S3 hg hm q hdbg
        · exact ld_blt (X := X.suite a ((a, oe3) :: (X.pn ++ pins))) S3 hg hm hv q hnn hdbg
      refine wpAny_handleBy_cons (codeAny_handlers_test (test (LM.here ?_))) (by intro q; cases q)
      cases b with
      | false => exact ih (no rfl)
      | true =>
        refine codeAny_handlers_suite_as (HandSPX.lands_againZ fl3 fun h4 fl4 up4 => ?_)
        have J4 : Inv X pins σ' H' { t with heap := h4 } := J.landed nb fl4.1 ((up.trans up3).trans up4) os ag
        obtain ⟨oe4, vs4, he4, hz4, hd4⟩ := fl4.there
        refine store_ok (X := X.suite a ((a, oe4) :: (X.pn ++ pins))) (v := .ref a) (J4.suite he4 hd4 na nL nF) hN hi (.inl hln) rfl (fun s5 S5 => ?_) (.inr hln)
        refine wpAny_mono ((hsu a oe4 cls d (X.pn ++ pins) hz4 ⟨_, hd4⟩).run [] s5 _ H' _ S5 (yes rfl a na)) (fun f s6 z => ?_) fun _ _ z => z.elim
        have gone : ∀ {σ6 : L2.St} {H6 : Hp} {Q : Shared → Prop}, Inv (X.suite a ((a, oe4) :: (X.pn ++ pins))) [] σ6 H6 s6 → (∀ s7, Inv X pins (σ6.set i none) H6 s7 → Q s7) → wpAny (model X.prog X.w) X.A (do bindName X.env n .none; unbindBehindTheSuite X.env n pos') (fun _ s7 => Q s7) X.xe s6 :=
          fun S6 hq => gone_ok (S6.unsuite ok) hN hi hln hq
        match f, z with
        | .next, ⟨σ6, H6, S6, q⟩ => exact gone S6 fun s7 J7 => ⟨_, _, J7, q⟩
        | .brk, ⟨σ6, H6, S6, q⟩ => exact gone S6 fun s7 J7 => ⟨_, _, J7, q⟩
        | .cont, ⟨σ6, H6, S6, q⟩ => exact gone S6 fun s7 J7 => ⟨_, _, J7, q⟩
        | .ret u, ⟨v6, σ6, H6, S6, r6, q⟩ => exact gone S6 fun s7 J7 => ⟨_, _, _, J7, r6, q⟩
  exact go hh wish
end
end LB

set_option maxRecDepth 100000
set_option maxHeartbeats 4000000
namespace LB
open PySem PySem.Spec PyProof.Rows L2
/-! ### dicts whose keys are tuples of ints, texts, None and such tuples -/
mutual
/-- this value is this key -/
inductive KyAt (K : PySem.W.Frag) (H : Hp) : V → NestedKey → Prop
  | non : KyAt K H .non .none
  | int (i : Int) : KyAt K H (.int i) (.num i)
  | str (x : Str) : KyAt K H (.str x) (.text x)
  | tup {a : Addr} {vs : List V} {ks : List NestedKey} : SqT K H a vs → KyAll K H vs ks → KyAt K H (.ref a) (.tup ks)
inductive KyAll (K : PySem.W.Frag) (H : Hp) : List V → List NestedKey → Prop
  | nil : KyAll K H [] []
  | cons {v : V} {vs : List V} {k : NestedKey} {ks : List NestedKey} : KyAt K H v k → KyAll K H vs ks → KyAll K H (v :: vs) (k :: ks)
end
/-- tuples stay -/
def TpK (K : PySem.W.Frag) (H H' : Hp) : Prop := ∀ a xs, SqT K H a xs → SqT K H' a xs
mutual
theorem KyAt.tp {K : PySem.W.Frag} {H H' : Hp} (t : TpK K H H') : ∀ {v : V} {k : NestedKey}, KyAt K H v k → KyAt K H' v k
  | _, _, .non => .non
  | _, _, .int i => .int i
  | _, _, .str x => .str x
  | _, _, .tup h r => .tup (t _ _ h) (KyAll.tp t r)
theorem KyAll.tp {K : PySem.W.Frag} {H H' : Hp} (t : TpK K H H') : ∀ {vs : List V} {ks : List NestedKey}, KyAll K H vs ks → KyAll K H' vs ks
  | _, _, .nil => .nil
  | _, _, .cons h r => .cons (KyAt.tp t h) (KyAll.tp t r)
end
section
variable {X : Cx} {pins : List (Addr × Obj)} {σ : L2.St} {H : Hp} {s : Shared}
mutual
theorem KyAt.is (I : Inv X pins σ H s) : ∀ {v : V} {k : NestedKey} {u : Value}, KyAt X.K H v k → RelV v u → NestedIs s.heap k u
  | _, _, u, .non, r => by cases (show u = Value.none from r); exact .none
  | _, _, u, .int i, r => by obtain ⟨t, e⟩ := (show ∃ t, u = Value.int i t from r); subst e; exact .int i t
  | _, _, u, .str x, r => by obtain ⟨t, e⟩ := (show ∃ t, u = Value.str x t from r); subst e; exact .text x t
  | _, _, u, .tup (a := a) h q, r => by
    cases (show u = Value.ref a from r)
    obtain ⟨its, rv, ⟨o, h1, h2, n, h3⟩, _⟩ := I.tuple h
    exact .tup h1 h2 h3 (by simpa using KyAll.is I q rv)
theorem KyAll.is (I : Inv X pins σ H s) : ∀ {vs : List V} {ks : List NestedKey} {us : List Value}, KyAll X.K H vs ks → Vals vs us → NestedAll s.heap ks us
  | _, _, _, .nil, .nil => .nil
  | _, _, _, .cons h q, .cons r rs => .cons (KyAt.is I h r) (KyAll.is I q rs)
end
end
/-- a dict's object, by its entries -/
def NDo (w : World) (d : Addr) (xs : List (NestedKey × Addr × Value)) : HO :=
  .ext fun h => ∃ o es ep, h.get? d = some o ∧ o.ExactDict ∧ o.data = .dict es ep ∧ es.toList = xs.map fun x => (⟨x.1.hash w, .ref x.2.1, x.2.2⟩ : DictEntry)
abbrev KN (K : PySem.W.Frag) (H : Hp) : List (NestedKey × V) → List (NestedKey × Addr × Value) → Prop := Paired fun p q => p.1 = q.1 ∧ KyAt K H (.ref q.2.1) p.1 ∧ p.1.depth ≤ 8 ∧ RelV p.2 q.2.2
/-- at d stands a dict of these keys and values -/
def ND (K : PySem.W.Frag) (w : World) (H : Hp) (d : Addr) (kvs : List (NestedKey × V)) : Prop :=
  ∃ xs, H d = some (NDo w d xs) ∧ (d == sysModules) = false ∧ kvs.length ≤ sizeLine ∧ (xs.map (·.1)).Nodup ∧ KN K H kvs xs
section
variable {K : PySem.W.Frag} {w : World} {H H' : Hp} {d : Addr} {kvs : List (NestedKey × V)} {xs : List (NestedKey × Addr × Value)}
theorem KN.tp (r : KN K H kvs xs) (t : TpK K H H') : KN K H' kvs xs := Paired.mapP r fun _ _ z => ⟨z.1, z.2.1.tp t, z.2.2⟩
theorem ND.tp (D : ND K w H d kvs) (t : TpK K H H') (e : H d = H' d) : ND K w H' d kvs := by
  obtain ⟨xs, h1, h2, h3, h4, h5⟩ := D
  exact ⟨xs, e ▸ h1, h2, h3, h4, KN.tp h5 t⟩
theorem KN.val (r : KN K H kvs xs) (k : NestedKey) : RelO (valV kvs k) ((atKey xs k).map (·.2)) := by
  induction r with
  | nil => exact True.intro
  | @cons p q ps qs h t ih =>
    obtain ⟨h1, _, _, h2⟩ := h
    by_cases e : p.1 = k
    · have e' : q.1 = k := h1.symm.trans e
      have b : atKey (q :: qs) k = some q.2 := by simp [atKey, List.find?_cons, e']
      rw [valV_pos e, b]; exact h2
    · have e' : ¬ q.1 = k := fun z => e (h1.trans z)
      have b : atKey (q :: qs) k = atKey qs k := by simp [atKey, List.find?_cons, e']
      rw [valV_neg e, b]; exact ih
theorem KN.repl (r : KN K H kvs xs) (k : NestedKey) {y : V} {u : Value} (ry : RelV y u) : KN K H (kvs.map fun kv => if kv.1 = k then (kv.1, y) else kv) (xs.map (putAt k u)) := by
  induction r with
  | nil => exact .nil
  | @cons p q ps qs h t ih =>
    rw [List.map_cons, List.map_cons]
    refine .cons ?_ ih
    obtain ⟨h1, h2, h3, h4⟩ := h
    unfold putAt
    by_cases e : p.1 = k
    · rw [if_pos e, if_pos (h1.symm.trans e)]; exact ⟨h1, h2, h3, ry⟩
    · rw [if_neg e, if_neg (fun z => e (h1.trans z))]; exact ⟨h1, h2, h3, h4⟩
theorem KN.put (r : KN K H kvs xs) (k : NestedKey) {b : Addr} {y : V} {u : Value} (hb : KyAt K H (.ref b) k) (hk : k.depth ≤ 8) (ry : RelV y u) : KN K H (putK kvs k y) (storedH xs k b u) := by
  have e : (kvs.any fun kv => decide (kv.1 = k)) = (atKey xs k).isSome := by
    rw [valV_any, (KN.val r k).isSome_eq, Option.isSome_map]
  unfold putK storedH
  rw [e]
  by_cases q : (atKey xs k).isSome = true
  · rw [if_pos q, if_pos q]; exact KN.repl r k ry
  · rw [if_neg q, if_neg q]; exact Paired.snoc r ⟨rfl, hb, hk, ry⟩
end
section
variable {X : Cx} {pins : List (Addr × Obj)} {σ : L2.St} {H : Hp} {s : Shared} {d : Addr} {kvs : List (NestedKey × V)}
theorem ND.at_ (I : Inv X pins σ H s) (D : ND X.K X.w H d kvs) : (d == sysModules) = false ∧ ∃ xs, H d = some (NDo X.w d xs) ∧ KN X.K H kvs xs ∧ xs.length ≤ sizeLine ∧ s.heap.DictOfH (nestedKind X.prog X.w) d xs := by
  obtain ⟨xs, h1, h2, h3, h4, r⟩ := D
  obtain ⟨⟨o, es, ep, e1, e2, e3, e4⟩, _, _⟩ := I.hok d _ h1
  refine ⟨h2, xs, h1, r, by rw [← Paired.length r]; exact h3, o, es, ep, e1, e2, e3, e4, fun x hx => ?_, h4⟩
  have all : ∀ {l : List (NestedKey × V)} {m : List (NestedKey × Addr × Value)}, KN X.K H l m → ∀ x ∈ m, (nestedKind X.prog X.w).is s.heap x.1 x.2.1 := by
    intro l m q
    induction q with
    | nil => intro x hx; exact nomatch hx
    | @cons p q ps qs hq t ih =>
      intro x hx
      rcases List.mem_cons.mp hx with e | hx
      · subst e
        rw [← hq.1]
        exact ⟨KyAt.is I hq.2.1 rfl, hq.2.2.1⟩
      · exact ih x hx
  exact all r x hx
/-- a key -/
def IsKy (K : PySem.W.Frag) (H : Hp) (y : V) (k : NestedKey) : Prop := ∃ b, y = .ref b ∧ KyAt K H y k ∧ k.depth ≤ 8
/-- d[key] -/
def rNDget (K : PySem.W.Frag) (w : World) : R2 := fun x y H Q => ∃ d kvs k v, x = .ref d ∧ ND K w H d kvs ∧ IsKy K H y k ∧ valV kvs k = some v ∧ Q v H
theorem nd_getItem {A : Around} {E : Value → Shared → Prop} {y v : V} {k : NestedKey} {u : Value} {Q : Value → Shared → Prop} (hu : A.units + 64 < cLine) (I : Inv X pins σ H s) (D : ND X.K X.w H d kvs) (hk : IsKy X.K H y k) (hv : valV kvs k = some v) (ry : RelV y u)
    (h : ∀ w' s', Inv X pins σ H s' → RelV v w' → Q w' s') : wpAny (model X.prog X.w) A (getItem (.ref d) u) Q E s := by
  obtain ⟨hd, xs, h1, r, hl, dd⟩ := D.at_ I
  obtain ⟨b, rfl, ky, dp⟩ := hk
  cases (show u = Value.ref b from ry)
  obtain ⟨w', hw, rw'⟩ := RelO.some_of (v := v) (o := (atKey xs k).map (·.2)) (by rw [← hv]; exact KN.val r k)
  obtain ⟨p, hp, hp2⟩ := Option.map_eq_some_iff.mp hw
  refine wpAny_getItem_heap (knd := nestedKind X.prog X.w) ?_ ⟨KyAt.is I ky rfl, dp⟩ dd hp ?_
  · show A.units + 1 + 8 < cLine
    omega
  · rw [hp2]
    exact h w' _ (I.tok _) rw'
/-- key in d, key not in d -/
def rNDin (K : PySem.W.Frag) (w : World) (f : Bool → Bool) : R2 := fun y x H Q => ∃ d kvs k, x = .ref d ∧ ND K w H d kvs ∧ IsKy K H y k ∧ Q (.bl (f (valV kvs k).isSome)) H
theorem op_ndin (hu : X.A.units + 64 < cLine) : OpR X (compareOp .In) (rNDin X.K X.w id) := by
  intro pins s σ H y x u v Q I ry rx h
  obtain ⟨d, kvs, k, rfl, D, hk, q⟩ := h
  obtain ⟨hd, xs, h1, r, hl, dd⟩ := D.at_ I
  obtain ⟨b, rfl, ky, dp⟩ := hk
  cases (show u = Value.ref b from ry)
  cases (show v = Value.ref d from rx)
  refine wpAny_in_heap (knd := nestedKind X.prog X.w) ?_ ⟨KyAt.is I ky rfl, dp⟩ hd dd ?_
  · show X.A.units + 1 + 8 < cLine
    omega
  · have e := (KN.val r k).isSome_eq
    rw [Option.isSome_map] at e
    rw [← e]
    exact ⟨.bl _, H, I.tok _, rfl, q⟩
theorem op_ndnotin (hu : X.A.units + 64 < cLine) : OpR X (compareOp .NotIn) (rNDin X.K X.w not) := by
  intro pins s σ H y x u v Q I ry rx h
  obtain ⟨d, kvs, k, rfl, D, hk, q⟩ := h
  obtain ⟨hd, xs, h1, r, hl, dd⟩ := D.at_ I
  obtain ⟨b, rfl, ky, dp⟩ := hk
  cases (show u = Value.ref b from ry)
  cases (show v = Value.ref d from rx)
  refine wpAny_notIn_heap (knd := nestedKind X.prog X.w) ?_ ⟨KyAt.is I ky rfl, dp⟩ hd dd ?_
  · show X.A.units + 1 + 8 < cLine
    omega
  · have e := (KN.val r k).isSome_eq
    rw [Option.isSome_map] at e
    rw [← e]
    exact ⟨.bl _, H, I.tok _, rfl, q⟩
def tNDget (K : PySem.W.Frag) (w : World) (td ty : TE) : TE := fun σ H Q => td σ H fun x H1 => ty σ H1 fun y H2 => rNDget K w x y H2 Q
theorem pe_ndget {o i : PySem.Expr} {td ty : TE} {pos : Pos} (hu : X.A.units + 64 < cLine) (ho : PE X o td) (hi : PE X i ty) (hs : NoSl i) : PE X (.Subscript o i pos) (tNDget X.K X.w td ty) := by
  refine ⟨fun pins s σ H Q I h => ?_⟩
  refine subD_of PySem.F.slot_dict_getitem.lookup hs (thn (ho.run pins s σ H _ I h) fun u s1 ⟨x, H1, I1, rx, q1⟩ => thn (hi.run pins s1 σ H1 _ I1 q1) fun iv s2 ⟨y, H2, I2, ry, d, kvs, k, v, ex, D, hk, hv, q2⟩ => ?_)
  subst ex
  obtain rfl : u = Value.ref d := rx
  obtain ⟨_, xs, _, _, _, dd⟩ := D.at_ I2
  exact ⟨dd.typeIs, nd_getItem hu I2 D hk hv ry fun w' s3 I3 rw' => ⟨v, H2, I3, rw', q2⟩⟩
/-- d[key] = v -/
def rNDset (K : PySem.W.Frag) (w : World) : TSet := fun o i v H Q => ∃ d kvs k, o = .ref d ∧ ND K w H d kvs ∧ IsKy K H i k ∧ kvs.length < sizeLine ∧ ∀ H', (∀ b, b ≠ d → H' b = H b) → ND K w H' d (putK kvs k v) → Q H'
theorem set_nd (hu : X.A.units + 64 < cLine) : PSet X (rNDset X.K X.w) := by
  intro pins s σ H o i v ov iv u Q I ro ri rv h
  obtain ⟨d, kvs, k, rfl, D, hk, hlt, q⟩ := h
  obtain ⟨hd, xs, h1, r, hl, dd⟩ := D.at_ I
  obtain ⟨b, rfl, ky, dp⟩ := hk
  cases (show iv = Value.ref b from ri)
  cases (show ov = Value.ref d from ro)
  refine wpAny_setItem_heap (knd := nestedKind X.prog X.w) (hsz := hl) ?_ ⟨KyAt.is I ky rfl, dp⟩ dd fun h' dd' hs => ?_
  · show X.A.units + 1 + 8 < cLine
    omega
  obtain ⟨o2, es, ep, hq, h2, h3, h4, _, h5⟩ := dd'
  have tp : TpK X.K H (upd H d (NDo X.w d (storedH xs k b u))) := fun a ys q => by
    rcases q with (q | ⟨ob, q⟩) | q
    · exact .inl (.inl (by rw [upd_ne (ne_of q h1 (by intro z; cases z))]; exact q))
    · exact .inl (.inr ⟨ob, by rw [upd_ne (ne_of q h1 (by intro z; cases z))]; exact q⟩)
    · exact .inr q
  refine ⟨upd H d (NDo X.w d (storedH xs k b u)), d_write I (by rw [h1]; exact True.intro) hs ⟨o2, hq⟩ ⟨⟨o2, es, ep, hq, h2, h3, h4⟩, ⟨o2, hq⟩, fun a1 a2 z e => ?_⟩, q _ (fun c hc => upd_ne hc) ?_⟩
  · obtain ⟨o, es, ep, z1, z2⟩ := z
    exact ⟨o, es, ep, e _ z1, z2⟩
  · exact ⟨_, upd_same, hd, by have := length_putK kvs k v; omega, h5, KN.tp (KN.put r k ky dp rv) tp⟩
/-- {} -/
def tNDnew (K : PySem.W.Frag) (w : World) : TE := fun _ H Q => ∀ p, H p = none → ND K w (upd H p (NDo w p [])) p [] → Q (.ref p) (upd H p (NDo w p []))
theorem pe_ndnew {pos : Pos} : PE X (.Dict [] [] pos) (tNDnew X.K X.w) := ⟨fun pins s σ H Q I h =>
  wpAny_Dict_empty ⟨.ref s.heap.objs.size, _, I.laid (a := s.heap.objs.size) (o := NDo X.w s.heap.objs.size []) (t' := s.toks) (fun _ _ q => Heap.get?_push_of_some _ q) (Nat.le_refl _)
    ⟨⟨_, #[], 0, Heap.get?_push_size _ rfl, ⟨rfl, rfl, rfl⟩, rfl, rfl⟩, ⟨_, Heap.get?_push_size _ rfl⟩, fun a1 a2 z e => by
      obtain ⟨o, es, ep, z1, z2⟩ := z
      exact ⟨o, es, ep, e _ z1, z2⟩⟩, rfl,
    h _ (I.hok.fresh (Nat.le_refl _)) ⟨[], upd_same, beq_eq_false_iff_ne.mpr (Ne.symm (Nat.ne_of_lt I.big)), Nat.zero_le _, List.nodup_nil, .nil⟩⟩⟩
end
end LB

set_option maxRecDepth 100000
set_option maxHeartbeats 4000000
namespace LB
open PySem PySem.Spec PyProof.Rows L2 LamX
/-! ### min(xs, key=lambda t: ..) of a list of ours -/
/-- a def whose code object is known, by its body -/
theorem ok_code {P : Program} {w : World} {K : PySem.W.Frag} {mg : Str → Option Value} {base : Heap} {x q : Str} {st : Stmt} {f c : Addr} {oc : Value} {od an : Option Addr} {osl : Array (Option Value)} {kV doc pm ct : Value} {N ps : List Str} {k : Nat} {sp : Sp}
    (lk : K.lookup f = some ⟨oc, od, .func (PySem.W.fnOf x q (defArgs st) (defBody st) (defScope st) .none kV doc pm an (.ref c) ct), osl⟩) (hc : PySem.W.codeIn K (.ref c) q = true) (S : FnScope N ps (defScope st)) (len : ∀ vs H Q E, sp vs H Q E → vs.length = ps.length)
    (hbody : ∀ (A : Around) (outer : List Env) (s : Shared) (H : Hp) (vs : List V) (Q : VK) (E : XK), Room k (A.deeper (envOfC q (defScope st) s.heap.objs.size f (.ref c))) → sp vs H Q E →
      ∃ t, PSs (cxOf CX0 P w K mg base N q (defScope st) f (.ref c) A outer s H E).nox (defBody st) t ∧ t { nx := fun _ H' => Q .non H', rt := Q } (start N vs) H) :
    FnOk P w K mg base CX0 (k + 1) f (PySem.W.fnOf x q (defArgs st) (defBody st) (defScope st) .none kV doc pm an (.ref c) ct) ps sp :=
  fn_of lk hc S len fun A outer s H vs Q E hr hsp => let ⟨t, h, z⟩ := hbody A outer s H vs Q E hr hsp; ⟨t, h.nox, z⟩
section
variable {X : Cx} {pins : List (Addr × Obj)} {σ : L2.St} {H : Hp} {s : Shared}
/-- the lambda at f, called on x from where I stands -/
theorem lam_call {f c' : Addr} {q t : Str} {params : Arguments} {body : Expr} {scope : Scope} {pm ctv v : Value} {x y : V} {k : Nat} {tb : TE} {Q : Value → Shared → Prop} {E : Value → Shared → Prop}
    (I : Inv X pins σ H s) (Sc : FnScope [t] [t] scope) (hf : s.heap.get? f = some (PySem.W.kla_obj "<lambda>" q params body scope [] pm c' ctv)) (hc : H c' = some (CodeO c' q))
    (hbind : bindArgs (PySem.W.kla_fn "<lambda>" q params body scope [] pm (.ref c') ctv) ⟨[v], []⟩ = pure [(t, v)]) (hr : Room (k + 1) X.A.in1) (rx : RelV x v)
    (hbody : ∀ (A : Around) (outer : List Env) (s : Shared) (H : Hp) (E : XK) (f : Addr) (cd : Value), Room k (A.deeper (envOfC q scope s.heap.objs.size f cd)) → PE (cxOf CX0 X.prog X.w X.K X.mg X.base [t] q scope f cd A outer s H E) body tb)
    (ht : tb [some x] H (fun r H' => r = y ∧ H' = H))
    (h : ∀ u s', Inv X pins σ H s' → (∀ b o, s.heap.get? b = some o → H b = none → b ∉ frs X.stack → s'.heap.get? b = some o) → RelV y u → Q u s') :
    wpAny (model X.prog X.w) X.A.in1 (call (.ref f) [v]) Q E s := by
  obtain ⟨⟨oc, vs, tk, hoc, hdc, hvc⟩, _, _⟩ := I.hok c' _ hc
  have lim := I.nolimit
  have kinds : ∀ z ∈ [(t, v)], scope.names.lookup z.1 = some .local ∨ (scope.names.lookup z.1 = some .cell ∧ ((cellsFrom (s.heap.objs.size + 1) scope.names []).lookup z.1).isSome = true) := by
    intro z hz
    have ez := List.mem_singleton.mp hz
    subst ez
    cases Sc.par t (List.mem_singleton.mpr rfl) with
    | inl z => exact .inl z
    | inr z => exact .inr ⟨z, PySem.W.cellsFrom_some _ _ _ (.inl z)⟩
  have rc : codeAny (model X.prog X.w) X.A.in1 (.call (.ref f) ⟨[v], []⟩) (CR CX0 X.stack X.prog X.w H s (fun r H' => r = y ∧ H' = H) C8.E0) s := by
    refine PySem.W.kla_callFunE hr.depth hf rfl Sc.co Sc.gen rfl ⟨c', oc, vs, tk, rfl, hoc, hdc, hvc⟩ ?_
    rw [hbind]
    refine wpAny_pure (wpAny_newFunctionEnv_cells Sc.kind kinds ?_)
    intro env he s1 into
    subst he
    refine ⟨lim.keeps into.toInCall.keep, ?_⟩
    have J := inv_start (CX := CX0) (E := C8.E0) (f := f) (cd := .ref c') (qual := q) Sc hr.hd (I.env0.in1) (vs := [x]) (us := [v]) rfl (.cons rx .nil) into
    refine PySem.W.kla_codeExpr (wpAny_mono ((hbody _ _ s H C8.E0 f (.ref c') (hr.deeper _)).run [] _ _ H (fun r H' => r = y ∧ H' = H) J ht) (fun u s' hq => ?_) fun e s' hq => hq)
    obtain ⟨r, H', J', rv, z⟩ := hq
    exact ⟨r, H', J'.os, J'.bare, J'.base, J'.hok, rv, z⟩
  refine wpAny_call (codeAny_mono rc fun r s' hq => ?_)
  match r, hq with
  | .error e, hq => exact (show False from hq).elim
  | .ok .next, hq => exact False.elim hq
  | .ok .brk, hq => exact False.elim hq
  | .ok .cont, hq => exact False.elim hq
  | .ok (.ret u), hq =>
    have un := hq
    obtain ⟨_, _, _, _, un, _, _, _, rfl⟩ := un
    obtain ⟨r, H', I', rv, rfl, rfl⟩ := I.after hq
    exact h u s' I' (fun b o e n nf => un.keep b o e n nf List.not_mem_nil) rv
theorem inv_moved {ch : List Addr} {s' : Shared} (I : Inv X pins σ H s) (m : Moved ch (fun a b => b = a) s s') (hf : ∀ b ∈ ch, FpOk X pins H b) : Inv X pins σ H s' := by
  obtain ⟨h', g', d', t', o'⟩ := s'
  have eg : g' = s.gens := m.gens
  have ed : d' = s.drawn := m.drawn
  have eo : o' = s.os := m.os
  subst eg ed eo
  exact I.turnedL (fun b o nb e => m.heap b o nb e) hf
/-- the place of the first least one -/
def bestOf (ds : List PyData) : Nat → Nat := argBest fun i j => PySem.W.dataLt (ds.getD i .none) (ds.getD j .none)
theorem bestOf_le (ds : List PyData) : ∀ n, bestOf ds n ≤ n
  | 0 => Nat.le_refl _
  | n + 1 => by
    show (if _ then n + 1 else argBest _ n) ≤ n + 1
    split
    · exact Nat.le_refl _
    · exact Nat.le_succ_of_le (bestOf_le ds n)
theorem min_lam {a f c' : Addr} {od : Obj} {q t : Str} {params : Arguments} {body : Expr} {scope : Scope} {pm ctv : Value} {k : Nat} {tb : TE} {xs ks : List V} {ds : List PyData} {Q : Value → Shared → Prop} {E : Value → Shared → Prop}
    (I : Inv X pins σ H s) (hcalm : X.calm = true) (ha : H a = some (.frz od (.lst xs))) (Sc : FnScope [t] [t] scope) (hf : s.heap.get? f = some (PySem.W.kla_obj "<lambda>" q params body scope [] pm c' ctv)) (hn : H f = none) (hfr : f ∉ frs X.stack) (hcc : H c' = some (CodeO c' q))
    (hbind : ∀ v, bindArgs (PySem.W.kla_fn "<lambda>" q params body scope [] pm (.ref c') ctv) ⟨[v], []⟩ = pure [(t, v)]) (hr : Room (k + 2) X.A)
    (hbody : ∀ (A : Around) (outer : List Env) (s : Shared) (H : Hp) (E : XK) (f : Addr) (cd : Value), Room k (A.deeper (envOfC q scope s.heap.objs.size f cd)) → PE (cxOf CX0 X.prog X.w X.K X.mg X.base [t] q scope f cd A outer s H E) body tb)
    (ht : ∀ (i : Nat) (x y : V), xs[i]? = some x → ks[i]? = some y → tb [some x] H (fun r H' => r = y ∧ H' = H)) (hl : ks.length = xs.length) (hd : ∀ (i : Nat) (y : V) (d : PyData), ks[i]? = some y → ds[i]? = some d → Dp X.K H y d) (hdl : ds.length = xs.length)
    (al : ∀ d ∈ ds, ∀ e ∈ ds, PySem.W.alike d e = true) (nn : ∀ d ∈ ds, d ≠ .none) (dp : ∀ d ∈ ds, d.depth ≤ 50) (pos : 0 < xs.length)
    (h : ∀ x v s', xs[bestOf ds (xs.length - 1)]? = some x → RelV x v → Inv X pins σ H s' → Q v s') :
    wpAny (model X.prog X.w) X.A (call (.builtin "min") [.ref a] [(Str.ofString "key", .ref f)]) Q E s := by
  obtain ⟨its, rv, li, _⟩ := I.list (show SqL X.K H a xs from .inl (.inr ⟨od, ha⟩))
  have len : xs.length = its.length := rv.length
  have sz : its.toArray.size = xs.length := by simp [len]
  have nofr : ∀ b, s.heap.objs.size ≤ b → b ∉ frs X.stack := fun b hb z => by
    rcases List.mem_cons.mp (I.stkSub _ z) with e | e
    · have h1 := I.lt
      rw [← e] at h1
      exact Nat.lt_irrefl _ (Nat.lt_of_lt_of_le h1 hb)
    · exact I.nofs hb e
  have flt : f < s.heap.objs.size := Heap.lt_size hf
  refine call_min_walkK (PySem.W.iter_listW (A := X.A.in1) (I.ok.hd hcalm) li.isList fun s₂ e W st hfp hw hk => ?_)
  subst e
  have szS : s.heap.objs.size ≤ (s.heap.push { cls := .type "list_iterator", data := .fields #[.ref a, .int 0 0] }).objs.size := by rw [Heap.size_push]; exact Nat.le_succ _
  have I2 : Inv X pins σ H { s with heap := s.heap.push { cls := .type "list_iterator", data := .fields #[.ref a, .int 0 0] } } := I.kept (t' := s.toks) hk
  have fps : ∀ b ∈ [(s.heap.push { cls := .type "list_iterator", data := .fields #[.ref a, .int 0 0] }).objs.size, s.heap.objs.size], FpOk X pins H b := fun b hb => by
    have le : s.heap.objs.size ≤ b := by
      rcases List.mem_cons.mp hb with e | hb
      · rw [e]; exact szS
      · rw [List.mem_singleton.mp hb]; exact Nat.le_refl _
    exact I.fpOk le (I.hok.fresh le)
  have item : ∀ (i : Nat) (v : Value), its.toArray[i]? = some v → ∃ x y, xs[i]? = some x ∧ ks[i]? = some y ∧ RelV x v := fun i v hv => by
    have hv : its[i]? = some v := by simpa using hv
    have hi := (List.getElem?_eq_some_iff.mp hv).1
    obtain ⟨u, hu, ru⟩ := rv.get (List.getElem?_eq_getElem (show i < xs.length by omega))
    rw [hv] at hu
    cases hu
    exact ⟨_, _, List.getElem?_eq_getElem (by omega), List.getElem?_eq_getElem (show i < ks.length by omega), ru⟩
  refine ⟨_, _, _, _, _, _, _, (fun z => Inv X pins σ H z ∧ z.heap.get? f = some (PySem.W.kla_obj "<lambda>" q params body scope [] pm c' ctv)), (fun i u z => ∃ y, ks[i]? = some y ∧ RelV y u), (fun i j => PySem.W.dataLt (ds.getD i .none) (ds.getD j .none)), rfl, W, st, hfp, ?_, ?_, ?_, ?_⟩
  · rw [sz]; exact pos
  · constructor
    · rintro z z' ⟨J, Jf⟩ m
      refine ⟨inv_moved J m fps, m.heap f _ (fun z => ?_) Jf⟩
      rcases List.mem_cons.mp z with e | z
      · rw [e] at flt; exact Nat.lt_irrefl _ (Nat.lt_of_lt_of_le flt szS)
      · rw [List.mem_singleton.mp z] at flt; exact Nat.lt_irrefl _ flt
    · exact fun i u z z' h _ => h
    · rintro i v z o Q' E' hi hP ⟨J, Jf⟩ ⟨it, isl⟩ hS hQ
      obtain ⟨x, y, hx, hy, rx⟩ := item i v hP
      refine lam_call J Sc Jf hcc (hbind v) hr.in1 rx hbody (ht i x y hx hy) fun u z' J' kp ru => ?_
      refine hQ u z' ⟨J', kp f _ Jf hn hfr⟩ ⟨?_, ?_⟩ (kp _ o hS (I.hok.fresh szS) (nofr _ szS)) ⟨y, hy, ru⟩ fun j k' h => h
      · obtain ⟨oi, e1, r⟩ := it
        exact ⟨oi, kp _ oi e1 (I.hok.fresh (Nat.le_refl _)) (nofr _ (Nat.le_refl _)), r⟩
      · obtain ⟨ol, e1, r⟩ := isl
        have e2 := (J.hok a _ ha).1
        have e3 := (J'.hok a _ ha).1
        rw [e1] at e2
        cases e2
        exact ⟨_, e3, r⟩
    · rintro i j ki kj z Q' E' ⟨J, _⟩ ⟨yi, hyi, ri⟩ ⟨yj, hyj, rj⟩ hQ
      have li := (List.getElem?_eq_some_iff.mp hyi).1
      have lj := (List.getElem?_eq_some_iff.mp hyj).1
      have gi : ds[i]? = some (ds.getD i .none) := by rw [List.getD_eq_getElem?_getD, List.getElem?_eq_getElem (show i < ds.length by omega)]; rfl
      have gj : ds[j]? = some (ds.getD j .none) := by rw [List.getD_eq_getElem?_getD, List.getElem?_eq_getElem (show j < ds.length by omega)]; rfl
      obtain ⟨as, r1⟩ := Dp.reads J _ yi ki (hd i yi _ hyi gi) ri
      obtain ⟨bs, r2⟩ := Dp.reads J _ yj kj (hd j yj _ hyj gj) rj
      have mi := List.mem_of_getElem? gi
      have mj := List.mem_of_getElem? gj
      refine PySem.W.rcLt_alike _ _ X.A.in1 z ki kj _ _ r1 r2 (al _ mi _ mj) (nn _ mi) ?_ X.prog X.w E' _ hQ
      have := Nat.min_le_left (ds.getD i .none).depth (ds.getD j .none).depth
      have := dp _ mi
      have := hr.un
      show X.A.units + 1 + _ < _
      omega
  · exact ⟨I2, hk _ _ hf⟩
  · rintro v z' hP ⟨J, _⟩
    obtain ⟨x, y, hx, _, rx⟩ := item _ v hP
    rw [sz] at hx
    exact h x v z' hx rx J
/-- what stands behind min's list: v at H1 -/
def kMin (T : List (Addr × Str)) (K : PySem.W.Frag) (tb : TE) (Q : VK) (v : V) (H1 : Hp) : Prop := Tabs T H1 ∧ ∃ (a : Addr) (xs ks : List V) (ds : List PyData), v = .ref a ∧ H1 a = some (.lst xs) ∧ 0 < xs.length ∧ ks.length = xs.length ∧ ds.length = xs.length ∧
  (∀ d ∈ ds, ∀ e ∈ ds, PySem.W.alike d e = true) ∧ (∀ d ∈ ds, d ≠ .none) ∧ (∀ d ∈ ds, d.depth ≤ 50) ∧ ∀ H2, ExtN H1 H2 → Tabs T H2 →
    (∀ (od : Obj) (i : Nat) (y : V) (d : PyData), ks[i]? = some y → ds[i]? = some d → Dp K (upd H2 a (.frz od (.lst xs))) y d) ∧
    (∀ (od : Obj) (i : Nat) (x y : V), xs[i]? = some x → ks[i]? = some y → tb [some x] (upd H2 a (.frz od (.lst xs))) (fun r H' => r = y ∧ H' = upd H2 a (.frz od (.lst xs)))) ∧
    ∀ x, xs[bestOf ds (xs.length - 1)]? = some x → Q x H2
def tMinK (T : List (Addr × Str)) (K : PySem.W.Frag) (tb te : TE) : TE := fun σ H Q => te σ H (kMin T K tb Q)
def oneV (R : V → Hp → Prop) : List V → Hp → Prop
  | [v], H => R v H
  | _, _ => False
theorem oneV_of {R : V → Hp → Prop} : ∀ {vs : List V} {H : Hp}, oneV R vs H → ∃ v, vs = [v] ∧ R v H
  | [v], H, h => ⟨v, rfl, h⟩
end
/-- min(e, key=lambda t: body) -/
theorem pe_minK {X : Cx} {T : List (Addr × Str)} {c P : Addr} {e : Expr} {t : Str} {params : Arguments} {body : Expr} {scope : Scope} {k : Nat} {tb te : TE} {p lpos kpos pos : Pos} (TB : TabB X.base X.mg c P) (hcode : X.env.code = .ref c)
    (hmT : (P, X.env.qual ++ "<lambda>") ∈ T) (hu : ∀ p ∈ T, p.1 = P → p.2 = X.env.qual ++ "<lambda>") (hr : Room (k + 2) X.A) (hcalm : X.calm = true) (Sc : FnScope [t] [t] scope) (hg : Gl X "min") (hm : X.mg "min" = none) (he : PE X e te)
    (hbody : ∀ (A : Around) (outer : List Env) (s : Shared) (H : Hp) (E : XK) (f : Addr) (cd : Value), Room k (A.deeper (envOfC (X.env.qual ++ "<lambda>") scope s.heap.objs.size f cd)) → PE (cxOf CX0 X.prog X.w X.K X.mg X.base [t] (X.env.qual ++ "<lambda>") scope f cd A outer s H E) body tb)
    (hdef : defaultsOf params X.env = ([], []) := by rfl) (hcl : cloFrom X.env.cells scope.names [] = [] := by rfl)
    (hbind : ∀ (q : Str) (pm cv ctv v : Value), bindArgs (PySem.W.kla_fn "<lambda>" q params body scope [] pm cv ctv) ⟨[v], []⟩ = pure [(t, v)] := by intros; rfl)
    (hs : starEach [e] X.env = (false, eval e X.env) :: starEach [] X.env := by rfl) (hb : backTo pos (starEach [e] X.env) = (false, eval e X.env) :: backTo pos (starEach [] X.env) := by rfl) (hpl : (backTo pos (starEach [e] X.env)).any (·.1) = false := by rfl) :
    PE X (.Call (.Name "min" p) [e] [⟨some "key", .Lambda params body scope lpos, kpos⟩] pos) (tMinK T X.K tb te) := by
  refine ⟨fun pins s σ H Q I h => ?_⟩
  refine wpAny_Call_Name_kw (ld_blt I hg hm PyProof.Rows.boot_min ?_)
  refine PyProof.Rows.callWith_kw (thn ((pa_cons he pa_nil hs).run pos pins s σ H (oneV (kMin T X.K tb Q)) I h) fun us s1 ⟨vs, H1, I1, r1, q1⟩ => ?_) hb hpl rfl rfl
  obtain ⟨v, rfl, q1⟩ := oneV_of q1
  obtain ⟨hT, a, xs, ks, ds, rfl, ha, h0, hl, hdl, al, nn, dp, q⟩ := q1
  obtain rfl := Vals.ref1 r1
  show wpAny _ _ (evalAll [do let v ← eval (.Lambda params body scope lpos) X.env; standAt pos; pure v]) _ _ s1
  refine wpAny_evalAll_cons (wpAny_bind (lam_make2 I1 TB hcode hmT hu hT hdef (fun y hy e => absurd e (Sc.nofree y hy)) fun f c' pm ctv H2 s2 I2 eN T2 hf hfn hfr hco => wpAny_bind (wpAny_standAt (wpAny_pure ?_))))
  refine wpAny_evalAll_nil ?_
  rw [hcl] at hf
  show wpAny _ _ (call (.builtin "min") [.ref a] [(Str.ofString "key", .ref f)]) _ _ s2
  obtain ⟨q1, q2, q3⟩ := q H2 eN T2
  have ha2 : H2 a = some (.lst xs) := eN a _ ha (fun ps z => by cases z)
  obtain ⟨od, I3⟩ := I2.lock ha2 trivial
  have fa : f ≠ a := fun z => by rw [z, ha2] at hfn; cases hfn
  have ca : c' ≠ a := fun z => by
    rw [z, ha2] at hco
    exact absurd (Option.some.inj hco) (by unfold CodeO; intro z; cases z)
  refine min_lam I3 hcalm upd_same Sc hf (by rw [upd_ne fa]; exact hfn) hfr (by rw [upd_ne ca]; exact hco) (fun v => hbind _ _ _ _ v) hr hbody (q2 od) hl (q1 od) hdl al nn dp h0 fun x v s3 hx rx I4 => ?_
  have I5 := I4.unlock upd_same (I2.nofrz ha2 trivial)
  have eH : upd (upd H2 a (.frz od (.lst xs))) a (.lst xs) = H2 := by
    funext b
    by_cases eb : b = a
    · rw [eb, upd_same, ha2]
    · rw [upd_ne eb, upd_ne eb]
  rw [eH] at I5
  exact ⟨x, H2, I5, rx, q3 x hx⟩
end LB

set_option maxRecDepth 100000
set_option maxHeartbeats 4000000
namespace LB
open PySem PySem.Spec PyProof.Rows L2
/-! ### sorted(xs, key=f), f a def of the program -/
abbrev KT : Type := V × V × PyData
def leK : KT → KT → Bool := PySem.W.dataLe false fun t => t.2.2
section
variable {X : Cx} {pins : List (Addr × Obj)} {σ : L2.St} {H : Hp} {s : Shared}
theorem vals_eachK : ∀ {ts : List KT} {out : List Value}, PySem.W.EachIs (fun v t => RelV t.1 v) out ts → Vals (ts.map (·.1)) out
  | _, _, .nil => .nil
  | _, _, .cons h r => .cons h (vals_eachK r)
theorem each_valsK : ∀ {ts : List KT} {out : List Value}, Vals (ts.map (·.1)) out → PySem.W.EachIs (fun v t => RelV t.1 v) out ts
  | [], _, .nil => .nil
  | _ :: _, _ :: _, .cons h r => .cons h (each_valsK r)
theorem each_readsK {K : PySem.W.Frag} {h : Heap} (rd : ∀ (d : PyData) (v : V) (u : Value), Dp K H v d → RelV v u → ∃ as, Reads h u d as) : ∀ {ts : List KT} {ks : List Value}, (∀ t ∈ ts, Dp K H t.2.1 t.2.2) → Vals (ts.map fun t => t.2.1) ks → PySem.W.EachIs (fun v d => ∃ as, Reads h v d as) ks (ts.map fun t => t.2.2)
  | [], _, _, .nil => .nil
  | t :: _, _ :: _, hd, .cons h r => .cons (rd _ _ _ (hd t (List.mem_cons_self ..)) h) (each_readsK rd (fun x hx => hd x (List.mem_cons_of_mem _ hx)) r)
theorem vals_snoc {xs : List V} {us : List Value} {x : V} {u : Value} (r : Vals xs us) (rx : RelV x u) : Vals (xs ++ [x]) (us ++ [u]) := r.append (.cons rx .nil)
theorem sort_keyI {l q : Addr} {ts : List KT} {Q : Value → Shared → Prop} {E : Value → Shared → Prop} (I : Inv X pins σ H s) (hs : SqL X.K H l (ts.map (·.1))) (hu : X.A.units + 64 < cLine)
    (turn : ∀ t ∈ ts, ∀ (v : Value) (s1 : Shared) (Q' E' : Value → Shared → Prop), RelV t.1 v → Inv X pins σ H s1 → (∀ u s2, Inv X pins σ H s2 → (∀ b o, s1.heap.get? b = some o → H b = none → b ∉ frs X.stack → s2.heap.get? b = some o) → RelV t.2.1 u → Q' u s2) →
      wpAny (model X.prog X.w) X.A.in1.in1 (call (.ref q) [v]) Q' E' s1)
    (hd : ∀ t ∈ ts, Dp X.K H t.2.1 t.2.2) (al : PySem.W.AllAlike (ts.map fun t => t.2.2)) (sk : PySem.W.Sortable (ts.map fun t => t.2.2)) (dp : ∀ t ∈ ts, t.2.2.depth ≤ 8)
    (h : ∀ p s2, H p = none → Inv X pins σ (upd H p (.lst ((ts.mergeSort leK).map (·.1)))) s2 → Q (.ref p) s2) :
    wpAny (model X.prog X.w) X.A (call (.builtin "sorted") [.ref l] [(Str.ofString "key", .ref q)]) Q E s := by
  obtain ⟨its, rv, hl, hz⟩ := I.list hs
  rw [List.length_map] at hz
  have len : its.length = ts.length := by rw [← rv.length, List.length_map]
  have hz2 : its.length ≤ sizeLine := by rw [len]; exact hz
  refine PySem.W.sorted_of_sort hl.isList hz2 (ksk_s1 _ _) (fun _ => ksk_l1 _ _) fun E' => ?_
  rw [ksk_t1]
  obtain ⟨a, ea⟩ : ∃ a, a = s.heap.objs.size + 1 := ⟨_, rfl⟩
  rw [← ea]
  have ho : (PySem.W.copyHeap s.heap its).get? a = some (seqObj "list" its.toArray 0) := ea ▸ PySem.W.copyHeap_at s.heap its
  have al0 : a < (PySem.W.copyHeap s.heap its).objs.size := Heap.lt_size ho
  obtain ⟨e1, ho1⟩ : ∃ e1, ((PySem.W.copyHeap s.heap its).update a (Obj.mapSeq fun _ => (#[] : Array Value))).get? a = some (seqObj "list" #[] e1) := ⟨_, get?_update_seq ho fun _ => #[]⟩
  have hkS : (((PySem.W.copyHeap s.heap its).update a (Obj.mapSeq fun _ => (#[] : Array Value))).push (seqObj "tuple" its.toArray 0)).objs.size = (PySem.W.copyHeap s.heap its).objs.size + 1 := by rw [size_push', Heap.size_update]
  unfold ksk_tree
  refine wpAny_bind (listItems_at ho rfl ?_)
  refine wpAny_bind (listUpdate_at ho rfl ?_ (by rw [List.size_toArray]; exact hz2) (Nat.zero_le _))
  refine wpAny_bind (seqEpoch_at ho1 rfl ?_)
  refine wpAny_bind (wpAny_newTuple ?_ (by show its.length ≤ _; exact hz2))
  refine wpAny_bind (wpAny_newList ?_ (Nat.zero_le _))
  refine wpAny_holding ?_
  try dsimp only
  obtain ⟨kS, ekS⟩ : ∃ kS, kS = (((PySem.W.copyHeap s.heap its).update a (Obj.mapSeq fun _ => (#[] : Array Value))).push (seqObj "tuple" its.toArray 0)).objs.size := ⟨_, rfl⟩
  rw [← ekS]
  have hka : kS ≠ a := by rw [ekS, hkS]; exact Nat.ne_of_gt (Nat.lt_succ_of_lt al0)
  have leA : s.heap.objs.size ≤ a := by rw [ea]; exact Nat.le_succ _
  have leK' : s.heap.objs.size ≤ kS := by rw [ekS, hkS]; omega
  have nofr : ∀ b, s.heap.objs.size ≤ b → b ∉ frs X.stack := fun b hb z => by
    rcases List.mem_cons.mp (I.stkSub _ z) with e | e
    · have h1 := I.lt
      rw [← e] at h1
      exact Nat.lt_irrefl _ (Nat.lt_of_lt_of_le h1 hb)
    · exact I.nofs hb e
  have nA := I.hok.fresh leA
  have nK := I.hok.fresh leK'
  have fA : FpOk X pins H a := I.fpOk leA nA
  have fK : FpOk X pins H kS := I.fpOk leK' nK
  unfold ksk_rest
  refine wpAny_bind (wpAny_rule ?_)
  first
    | rw [List.forIn_toArray]
    | (rw [← Array.forIn_toList]; simp only [List.toList_toArray])
    | rw [← Array.forIn_toList]
  refine wpAny_bind (ksk_fold (fun i s' => Inv X pins σ H s' ∧ ∃ kA e, s'.heap.get? kS = some (seqObj "list" kA e) ∧ s'.heap.get? a = some (seqObj "list" #[] e1) ∧ Vals ((ts.take i).map fun t => t.2.1) kA.toList) its 0 _ ?init ?step ?done)
  case init =>
    refine ⟨I.kept (t' := s.toks) fun b o e => ?_, #[], 0, ?_, ?_, .nil⟩
    · have := PySem.W.sorting_copy_old (vs := its) e
      rw [← ea] at this
      exact this
    · rw [ekS]; exact Heap.get?_push_size _ rfl
    · exact Heap.get?_push_of_some _ (Heap.get?_push_of_some _ ho1)
  case step =>
    rintro j x s' hx ⟨I', kA, e, nk, na, rk⟩
    simp only [Nat.zero_add] at rk ⊢
    have hj : j < its.length := (List.getElem?_eq_some_iff.mp hx).1
    have hjt : j < ts.length := by omega
    obtain ⟨u0, hu0, ru⟩ := rv.get (show (ts.map (·.1))[j]? = some ts[j].1 by rw [List.getElem?_map, List.getElem?_eq_getElem hjt]; rfl)
    rw [hx] at hu0
    cases hu0
    have hzk : kA.size ≤ ts.length := by
      have h1 := rk.length
      rw [List.length_map, List.length_take] at h1
      have e2 : kA.toList.length = kA.size := Array.length_toList
      omega
    refine wpAny_bind (wpAny_attempt (turn ts[j] (List.getElem_mem hjt) x s' _ _ ru I' fun u s2 I2 kp rku => ?_))
    try dsimp only
    have nk2 := kp _ _ nk nK (nofr _ leK')
    have na2 := kp _ _ na nA (nofr _ leA)
    have s1 := Heap.SameBut.update s2.heap kS (Obj.mapSeq (·.push u))
    obtain ⟨c2, hc2⟩ : ∃ c2, (s2.heap.update kS (Obj.mapSeq (·.push u))).get? kS = some (seqObj "list" (kA.push u) c2) := ⟨_, get?_update_seq nk2 (·.push u)⟩
    refine wpAny_bind (listUpdate_at nk2 rfl ?_ (Nat.le_trans hzk hz) (Nat.le_trans (Nat.le_of_eq (Array.size_push ..)) (Nat.succ_le_succ (Nat.le_trans hzk hz))))
    refine wpAny_pure ⟨rfl, I2.turnedL (t' := s2.toks) (ch := [kS]) (fun b o nb e => (s1.2 b (fun z => nb (z ▸ List.mem_singleton.mpr rfl))).trans e) (fun b hb => by rw [List.mem_singleton.mp hb]; exact fK), kA.push u, c2, hc2, (s1.2 a hka.symm).trans na2, ?_⟩
    rw [List.take_add_one, List.getElem?_eq_getElem hjt, List.map_append, Array.toList_push]
    exact vals_snoc rk rku
  case done =>
    rintro s' ⟨I', kA, e, nk, na, rk⟩
    have e3 : ts.take (0 + its.length) = ts := List.take_of_length_le (by omega)
    rw [e3] at rk
    have hsz : kA.size = its.length := by
      have h1 := rk.length
      rw [List.length_map] at h1
      have e2 : kA.toList.length = kA.size := Array.length_toList
      omega
    have hk' := each_readsK (h := s'.heap) (fun d v u => Dp.reads I' d v u) hd rk
    try dsimp only
    refine wpAny_bind (listItems_at nk rfl ?_)
    have hkN : (PySem.W.hideAll s'.heap [kS]).get? kS = none := PySem.W.hideAll_none _ (List.mem_singleton.mpr rfl)
    refine PySem.W.keyH_end (κ := PySem.W.dataKind s'.heap (ts.map fun t => t.2.2)) (h₁ := PySem.W.hideAll s'.heap [kS]) (fun b o _ e => PySem.W.of_hideAll _ e) hkN nk na hka
      (PySem.W.SortsAt.data hk' al sk fun d hd2 => ?_) hsz hz2 fun h3 tk3 c k3 n3 => ⟨rfl, ?_⟩
    · obtain ⟨t, ht, rfl⟩ := List.mem_map.mp hd2
      have := dp t ht
      show X.A.units + 1 + 1 + _ < cLine
      omega
    · have eo := PySem.W.keyedOut_each (rev := false) (R := fun v (t : KT) => RelV t.1 v) (bs := ts) (vs := its) (fun t => t.2.2) ⟨s'.heap, kA.toList, al, rfl, hk'⟩ (each_valsK rv)
      have rO := vals_eachK eo
      have oldA : ∀ b o, b ∉ [a, kS] → s'.heap.get? b = some o → h3.get? b = some o := fun b o nb e =>
        k3 b o (fun z => nb (by rw [z]; exact List.mem_cons_self ..)) (PySem.W.hideAll_get _ e fun z => nb (List.mem_cons_of_mem _ z))
      have I3 : Inv X pins σ H { s' with heap := PySem.W.hideAll h3 [a], toks := tk3 } := I'.turnedL (ch := [a, kS]) (fun b o nb e => PySem.W.hideAll_get _ (oldA b o nb e) fun z => nb (by rw [List.mem_singleton.mp z]; exact List.mem_cons_self ..)) fun b hb => by
        rcases List.mem_cons.mp hb with z | z
        · rw [z]; exact fA
        · rw [List.mem_singleton.mp z]; exact fK
      refine h a _ nA (I3.laidN (t' := tk3) (fun b o e => PySem.W.of_hideAll _ e) (PySem.W.hideAll_none _ (List.mem_singleton.mpr rfl)) nA ⟨?_, _, c, rO, n3⟩)
      rw [List.length_map, List.length_mergeSort]
      exact hz
end
end LB

set_option maxRecDepth 100000
set_option maxHeartbeats 4000000
namespace LB
open PySem PySem.Spec PyProof.Rows L2
section
variable {X : Cx} {pins : List (Addr × Obj)} {σ : L2.St} {H : Hp} {s : Shared}
/-- sorted(xs, key=f) -/
def rSortK (K : PySem.W.Frag) (q : Addr) (sp : Sp) : List V → List V → Hp → VK → Prop := fun vs zs H Q => ∃ (l : Addr) (ts : List KT), vs = [.ref l] ∧ zs = [.ref q] ∧ SqL K H l (ts.map (·.1)) ∧ (∀ t ∈ ts, sp [t.1] H (fun r H' => r = t.2.1 ∧ H' = H) C8.E0) ∧
  (∀ t ∈ ts, Dp K H t.2.1 t.2.2) ∧ PySem.W.AllAlike (ts.map fun t => t.2.2) ∧ PySem.W.Sortable (ts.map fun t => t.2.2) ∧ (∀ t ∈ ts, t.2.2.depth ≤ 8) ∧ ∀ p, H p = none → Q (.ref p) (upd H p (.lst ((ts.mergeSort leK).map (·.1))))
theorem cr_sortK {X : Cx} {q : Addr} {fd : FuncData} {x : Str} {sp : Sp} {k : Nat} (F : FnOk X.prog X.w X.K X.mg X.base CX0 k q fd [x] sp) (hr : Room (k + 2) X.A) (hb : Binds X.K fd [x] []) : CallRK X (.builtin "sorted") [Str.ofString "key"] (rSortK X.K q sp) := by
  intro pins s σ H xs zs us ws Q I rx rz h
  obtain ⟨l, ts, rfl, rfl, hs, hsp, hd, al, sk, dp, qq⟩ := h
  rw [Vals.ref1 rx, Vals.ref1 rz]
  refine sort_keyI I hs (by have := hr.un; omega) (fun t ht v s1 Q' E' rv I1 h1 => ?_) hd al sk dp fun p s2 np I2 => ⟨.ref p, _, I2, rfl, qq p np⟩
  refine wpAny_call (codeAny_mono (F.run X.A.in1.in1 X.stack s1 H ⟨[v], []⟩ [v] [t.1] (fun r H' => r = t.2.1 ∧ H' = H) C8.E0 hr.in1.in1 I1.env0.in1.in1 (hb s1 [v] I1.kIn rfl) (.cons rv .nil) (hsp t ht)) fun r s' hq => ?_)
  match r, hq with
  | .error e, hq => exact (show False from hq).elim
  | .ok .next, hq => exact False.elim hq
  | .ok .brk, hq => exact False.elim hq
  | .ok .cont, hq => exact False.elim hq
  | .ok (.ret u), hq =>
    have un := hq
    obtain ⟨_, _, _, _, un, _, _, _, rfl⟩ := un
    obtain ⟨r, H', I', rv, rfl, rfl⟩ := I1.after hq
    exact h1 u s' I' (fun b o e n nf => un.keep b o e n nf List.not_mem_nil) rv
/-! ### sorted(d), d's keys paths -/
def dPa (q : List Int) : PyData := .tuple (q.map .int)
def kPa (q : List Int) : NestedKey := .tup (q.map .num)
abbrev PT : Type := V × List Int
def leP : PT → PT → Bool := PySem.W.dataLe false fun t => dPa t.2
theorem kyAll_ints {K : PySem.W.Frag} {H : Hp} : ∀ {q : List Int} {vs : List V}, KyAll K H vs (q.map .num) → vs = q.map V.int
  | [], _, .nil => rfl
  | _ :: _, _, .cons (.int _) r => by rw [kyAll_ints r]; rfl
theorem ky_path {K : PySem.W.Frag} {H : Hp} {v : V} {q : List Int} (h : KyAt K H v (kPa q)) : ∃ a, v = .ref a ∧ SqT K H a (q.map V.int) := by
  unfold kPa at h
  cases h with
  | tup h r => exact ⟨_, rfl, kyAll_ints r ▸ h⟩
theorem ky_of {K : PySem.W.Frag} {H : Hp} {a : Addr} {q : List Int} (h : SqT K H a (q.map V.int)) : KyAt K H (.ref a) (kPa q) := .tup h (by
  clear h
  induction q with
  | nil => exact .nil
  | cons i r ih => exact .cons (.int i) ih)
theorem dp_ints {K : PySem.W.Frag} {H : Hp} : ∀ q : List Int, DpAll K H (q.map V.int) (q.map PyData.int)
  | [] => .nil
  | i :: r => .cons (.int i) (dp_ints r)
theorem dp_path {K : PySem.W.Frag} {H : Hp} {v : V} {q : List Int} (h : KyAt K H v (kPa q)) : Dp K H v (dPa q) := by
  obtain ⟨a, rfl, h2⟩ := ky_path h
  exact .tup h2 (dp_ints q)
theorem reads_ints {h : Heap} : ∀ {q : List Int} {vs : List Value} {as : List Addr}, ReadsAll h vs (q.map PyData.int) as → as = []
  | [], _, _, .nil => rfl
  | _ :: _, _, _, .cons (.int _ _) r => by rw [reads_ints r]; rfl
theorem reads_path {h : Heap} {v : Value} {q : List Int} {as : List Addr} (r : Reads h v (dPa q) as) : as = [] := by
  unfold dPa at r
  cases r with
  | tuple _ _ _ r => exact reads_ints r
theorem path_depth (q : List Int) : (dPa q).depth ≤ 1 := by
  unfold dPa
  simp [PyData.depth, PySem.W.depth_ints]
theorem path_alike (p q : List Int) : PySem.W.alike (dPa p) (dPa q) = true := by
  unfold dPa
  rw [PySem.W.alike]
  exact PySem.W.alike_ints p q
/-- the keys of such a dict, as values -/
theorem nd_keys {K : PySem.W.Frag} {H : Hp} : ∀ {kvs : List (NestedKey × V)} {xs : List (NestedKey × Addr × Value)} {qs : List (List Int)}, KN K H kvs xs → kvs.map (·.1) = qs.map kPa → ∃ ts : List PT, ts.map (·.2) = qs ∧ ts.map (·.1) = xs.map (fun x => V.ref x.2.1) ∧ ∀ t ∈ ts, KyAt K H t.1 (kPa t.2)
  | _, _, [], .nil, _ => ⟨[], rfl, rfl, fun _ h => (nomatch h)⟩
  | _, _, q :: qs, .cons (a := p) (b := x) h t, e => by
    rw [List.map_cons, List.map_cons] at e
    obtain ⟨e1, e2⟩ := List.cons.inj e
    obtain ⟨ts, r1, r2, r3⟩ := nd_keys t e2
    refine ⟨(.ref x.2.1, q) :: ts, by rw [List.map_cons, r1], by rw [List.map_cons, List.map_cons, r2], fun z hz => ?_⟩
    rcases List.mem_cons.mp hz with rfl | hz
    · show KyAt K H (.ref x.2.1) (kPa q)
      rw [← e1]
      exact h.2.1
    · exact r3 z hz
  | _, _, [], .cons _ _, e => by cases e
  | _, _, _ :: _, .nil, e => by cases e
def rSortND (K : PySem.W.Frag) (w : World) : List V → Hp → VK → Prop := fun xs H Q => ∃ (d : Addr) (kvs : List (NestedKey × V)) (qs : List (List Int)), xs = [.ref d] ∧ ND K w H d kvs ∧ kvs.map (·.1) = qs.map kPa ∧ (∀ q ∈ qs, q ≠ []) ∧
  ∀ (p : Addr) (ts : List PT), ts.map (·.2) = qs → (∀ t ∈ ts, KyAt K H t.1 (kPa t.2)) → H p = none → Q (.ref p) (upd H p (.lst ((ts.mergeSort leP).map (·.1))))
theorem each_path {h : Heap} {a : Addr} (rd : ∀ (v : V) (q : List Int) (u : Value), KyAt X.K H v (kPa q) → RelV v u → ∃ as, Reads h u (dPa q) as) : ∀ {ts : List PT} {us : List Value}, (∀ t ∈ ts, KyAt X.K H t.1 (kPa t.2)) → Vals (ts.map (·.1)) us →
    PySem.W.EachIs (fun v t => RelV t.1 v) us ts ∧ PySem.W.EachIs (fun v (t : PT) => ∃ as, Reads h v (dPa t.2) as ∧ a ∉ as) us ts
  | [], _, _, .nil => ⟨.nil, .nil⟩
  | t :: r, _ :: _, hk, .cons rt rr => by
    obtain ⟨e1, e2⟩ := each_path rd (fun x hx => hk x (List.mem_cons_of_mem _ hx)) rr
    obtain ⟨as, ra⟩ := rd _ _ _ (hk t (List.mem_cons_self ..)) rt
    exact ⟨.cons rt e1, .cons ⟨as, ra, by rw [reads_path ra]; exact List.not_mem_nil⟩ e2⟩
theorem vals_path : ∀ {ts : List PT} {out : List Value}, PySem.W.EachIs (fun v t => RelV t.1 v) out ts → Vals (ts.map (·.1)) out
  | _, _, .nil => .nil
  | _, _, .cons h r => .cons h (vals_path r)
theorem vals_at : ∀ {xs : List V} {us : List Value}, us.length = xs.length → (∀ (j : Nat) (x : V) (u : Value), xs[j]? = some x → us[j]? = some u → RelV x u) → Vals xs us
  | [], [], _, _ => .nil
  | x :: xs, u :: us, l, h => .cons (h 0 x u rfl rfl) (vals_at (by simpa using l) fun j a b e1 e2 => h (j + 1) a b e1 e2)
  | [], _ :: _, l, _ => by simp at l
  | _ :: _, [], l, _ => by simp at l
theorem call_sortedND {X : Cx} (hu : X.A.units + 64 < cLine) (hcalm : X.calm = true) : CallR X (.builtin "sorted") (rSortND X.K X.w) := by
  intro pins s σ H xs us Q I r h
  obtain ⟨d, kvs, qs, rfl, D, ek, ne, q⟩ := h
  rw [Vals.ref1 r]
  obtain ⟨lo, xs, h1, kn, hl, dd⟩ := D.at_ I
  obtain ⟨ts, t1, t2, t3⟩ := nd_keys kn ek
  obtain ⟨es, ep, raw, esz, hat⟩ := dd.raw
  refine Calls.call_function_entry PyProof.Rows.kind_sorted PyProof.Rows.plain_sorted PyProof.Rows.entry_sorted (PyProof.Rows.args_sorted1 _) ?_
  unfold Builtin.«sorted»
  refine wpAny_bind (m := checkCount "sorted" 1 1 _) (wpAny_pure ?_)
  refine wpAny_bind (PySem.W.kdu_collect (A := X.A.in1) (KdlSrc.rawDict (es := es) (ep := ep) lo) (I.ok.hd hcalm) raw (by rw [esz]; exact hl) fun h' tk acc hk hacc => ?_)
  have tl : ts.length = xs.length := by
    have e := congrArg List.length t2
    rw [List.length_map, List.length_map] at e
    exact e
  have hal : acc.toList.length = ts.length := by rw [Array.length_toList, hacc.1, esz, tl]
  have rv : Vals (ts.map (·.1)) acc.toList := by
    rw [t2]
    refine vals_at (by rw [hal, List.length_map, tl]) fun j x u e1 e2 => ?_
    rw [Array.getElem?_toList] at e2
    obtain ⟨hi, rfl⟩ := hacc.2 j u e2
    obtain ⟨y, y1, y2, _⟩ := hat j hi
    rw [List.getElem?_map, y1] at e1
    cases e1
    rw [y2]
    rfl
  have I1 : Inv X pins σ H { s with heap := h', toks := tk } := I.kept hk
  have hz : acc.toList.length ≤ sizeLine := by rw [hal, tl]; exact hl
  refine wpAny_bind (wpAny_newList ?_ hz)
  have hoL : (h'.push (seqObj "list" acc.toList.toArray 0)).get? h'.objs.size = some (seqObj "list" acc.toList.toArray 0) := Heap.get?_push_size _ rfl
  show wpAny _ _ _ _ _ { s with heap := h'.push (seqObj "list" acc.toList.toArray 0), toks := tk }
  have I2 : Inv X pins σ H { s with heap := h'.push (seqObj "list" acc.toList.toArray 0), toks := tk } := I1.kept (t' := tk) fun b o e => Heap.get?_push_of_some _ e
  obtain ⟨p1, p2⟩ := each_path (X := X) (a := h'.objs.size) (fun v q u k r => Dp.reads I2 _ v u (dp_path k) r) t3 rv
  refine wpAny_bind (wpAny_holding (PySem.W.list_sort_data (R := fun v (t : PT) => RelV t.1 v) (enc := fun t : PT => dPa t.2) (bs := ts) (s := { s with heap := h'.push (seqObj "list" acc.toList.toArray 0), toks := tk }) hoL p1 p2 ?_ (.inl ?_) (by rw [← hal]; exact hz) (fun t _ => ?_) fun out ol eo => ?_))
  · intro d hd d' hd'
    obtain ⟨i, _, rfl⟩ := List.mem_map.mp hd
    obtain ⟨j, _, rfl⟩ := List.mem_map.mp hd'
    exact path_alike _ _
  · intro d hd
    obtain ⟨t, ht, rfl⟩ := List.mem_map.mp hd
    have hq := ne t.2 (by rw [← t1]; exact List.mem_map.mpr ⟨t, ht, rfl⟩)
    show ∃ x r, dPa t.2 = .tuple (x :: r)
    cases e : t.2 with
    | nil => exact absurd e hq
    | cons i r => exact ⟨_, _, rfl⟩
  · have := path_depth t.2
    show X.A.units + 1 + 1 + _ < cLine
    omega
  · obtain ⟨e', he'⟩ := PyProof.Rows.sortedHeap_at (vs := acc.toList) (out := out.toArray) hoL
    refine wpAny_pure ⟨_, rfl, .ref h'.objs.size, upd H h'.objs.size (.lst ((ts.mergeSort leP).map (·.1))), I1.laid (t' := tk) (fun b u e => ?_) (Nat.le_refl _)
      (show ObjOk X.prog X.w _ _ _ (.lst ((ts.mergeSort leP).map (·.1))) from ⟨?_, out, e', vals_path eo, he'⟩), rfl, q _ ts t1 t3 (I1.hok.fresh (Nat.le_refl _))⟩
    · have hb : b < h'.objs.size := Heap.lt_size e
      rw [PyProof.Rows.sortedHeap_old (Nat.ne_of_lt hb) (by rw [size_push']; exact Nat.lt_succ_of_lt hb)]
      exact Heap.get?_push_of_some _ e
    · rw [List.length_map, List.length_mergeSort, ← hal]
      exact hz
end
end LB

set_option maxRecDepth 100000
set_option maxHeartbeats 2000000
namespace LB
/-! ### plans as trees -/
inductive Pk where
  | all | race | any | sequence
  deriving DecidableEq
inductive Kd where
  | plain (k : Pk) | pool (n : Int) | timeout (t : Int) | orelse | retry (r d : Int)
  deriving DecidableEq
/-- a node: its parts' indexes ps, in order -/
inductive Nd where
  | job (d : Int) (g : Bool) (v c : Int) (f : Option Int)
  | whole (k : Kd) (ps : List Int)
  deriving DecidableEq
inductive Pl where
  | job (d : Int) (g : Bool) (v c : Int) (f : Option Int)
  | node (k : Kd) (ps : List Pl)
def times : Kd → Int
  | .retry r _ => r + 1
  | _ => 1
def maxI (l : List Int) : Int := l.foldl max 0
mutual
def Pl.size : Pl → Nat
  | .job .. => 1
  | .node _ ps => Pl.sizeL ps + 1
def Pl.sizeL : List Pl → Nat
  | [] => 0
  | p :: r => p.size + Pl.sizeL r
end
mutual
def Pl.depth : Pl → Int
  | .job .. => 1
  | .node _ ps => 1 + maxI (Pl.depthL ps)
def Pl.depthL : List Pl → List Int
  | [] => []
  | p :: r => p.depth :: Pl.depthL r
end
mutual
def Pl.runs : Pl → Int
  | .job .. => 1
  | .node k ps => times k * (Pl.runsL ps).sum
def Pl.runsL : List Pl → List Int
  | [] => []
  | p :: r => p.runs :: Pl.runsL r
end
mutual
def Pl.clean : Pl → Int
  | .job _ _ _ c _ => c
  | .node _ ps => maxI (Pl.cleanL ps)
def Pl.cleanL : List Pl → List Int
  | [] => []
  | p :: r => p.clean :: Pl.cleanL r
end
theorem depthL_map : ∀ ps : List Pl, Pl.depthL ps = ps.map Pl.depth
  | [] => by rw [Pl.depthL]; rfl
  | p :: r => by rw [Pl.depthL, depthL_map r]; rfl
theorem runsL_map : ∀ ps : List Pl, Pl.runsL ps = ps.map Pl.runs
  | [] => by rw [Pl.runsL]; rfl
  | p :: r => by rw [Pl.runsL, runsL_map r]; rfl
theorem cleanL_map : ∀ ps : List Pl, Pl.cleanL ps = ps.map Pl.clean
  | [] => by rw [Pl.cleanL]; rfl
  | p :: r => by rw [Pl.cleanL, cleanL_map r]; rfl
theorem size_pos (p : Pl) : 0 < p.size := by
  cases p <;> simp [Pl.size]
/-- the indexes of the last nodes of the trees, the first tree's first node at o -/
def roots (o : Nat) : List Pl → List Int
  | [] => []
  | p :: r => ((o + p.size - 1 : Nat) : Int) :: roots (o + p.size) r
mutual
def Pl.flat (o : Nat) : Pl → List Nd
  | .job d g v c f => [.job d g v c f]
  | .node k ps => Pl.flatL o ps ++ [.whole k (roots o ps)]
def Pl.flatL (o : Nat) : List Pl → List Nd
  | [] => []
  | p :: r => p.flat o ++ Pl.flatL (o + p.size) r
end
mutual
theorem flat_length (o : Nat) : ∀ p : Pl, (p.flat o).length = p.size
  | .job .. => by simp [Pl.flat, Pl.size]
  | .node k ps => by
    have h := flatL_length o ps
    simp [Pl.flat, Pl.size, h]
theorem flatL_length (o : Nat) : ∀ ps : List Pl, (Pl.flatL o ps).length = Pl.sizeL ps
  | [] => by simp [Pl.flatL, Pl.sizeL]
  | p :: r => by
    have h := flat_length o p
    have h2 := flatL_length (o + p.size) r
    simp [Pl.flatL, Pl.sizeL, h, h2]
end
theorem sizeL_app : ∀ A B : List Pl, Pl.sizeL (A ++ B) = Pl.sizeL A + Pl.sizeL B
  | [], B => by simp [Pl.sizeL]
  | p :: r, B => by
    have h := sizeL_app r B
    simp only [List.cons_append, Pl.sizeL]
    omega
theorem flatL_app : ∀ (A B : List Pl) (o : Nat), Pl.flatL o (A ++ B) = Pl.flatL o A ++ Pl.flatL (o + Pl.sizeL A) B
  | [], B, o => by simp [Pl.flatL, Pl.sizeL]
  | p :: r, B, o => by
    have h := flatL_app r B (o + p.size)
    have e : o + p.size + Pl.sizeL r = o + (p.size + Pl.sizeL r) := by omega
    simp only [List.cons_append, Pl.flatL, Pl.sizeL, h, e, List.append_assoc]
theorem roots_app : ∀ (A B : List Pl) (o : Nat), roots o (A ++ B) = roots o A ++ roots (o + Pl.sizeL A) B
  | [], B, o => by simp [roots, Pl.sizeL]
  | p :: r, B, o => by
    have h := roots_app r B (o + p.size)
    have e : o + p.size + Pl.sizeL r = o + (p.size + Pl.sizeL r) := by omega
    simp only [List.cons_append, roots, Pl.sizeL, h, e]
theorem roots_length : ∀ (A : List Pl) (o : Nat), (roots o A).length = A.length
  | [], o => rfl
  | p :: r, o => by simp [roots, roots_length r]
theorem sizeL_one (p : Pl) : Pl.sizeL [p] = p.size := by simp [Pl.sizeL]
theorem flatL_one (o : Nat) (p : Pl) : Pl.flatL o [p] = p.flat o := by simp [Pl.flatL]
/-- a whole out of the last trees: one node more -/
theorem flatL_join (A B : List Pl) (k : Kd) : Pl.flatL 0 (A ++ [Pl.node k B]) = Pl.flatL 0 (A ++ B) ++ [Nd.whole k (roots (Pl.sizeL A) B)] := by
  rw [flatL_app, flatL_app, flatL_one, Pl.flat, Nat.zero_add, List.append_assoc]
theorem roots_join (A B : List Pl) (k : Kd) : roots 0 (A ++ [Pl.node k B]) = roots 0 A ++ [((Pl.sizeL (A ++ B) : Nat) : Int)] := by
  rw [roots_app, sizeL_app]
  show _ ++ [((0 + Pl.sizeL A + (Pl.node k B).size - 1 : Nat) : Int)] = _
  rw [show 0 + Pl.sizeL A + (Pl.node k B).size - 1 = Pl.sizeL A + Pl.sizeL B by rw [Pl.size]; omega]
/-! ### bounds -/
def KdOk : Kd → Nat → Prop
  | .plain _, n => 1 ≤ n ∧ n ≤ 6
  | .pool m, n => 1 ≤ n ∧ n ≤ 6 ∧ 1 ≤ m ∧ m ≤ 6
  | .timeout t, n => n = 1 ∧ 0 ≤ t ∧ t ≤ 1000
  | .orelse, n => n = 2
  | .retry r d, n => n = 1 ∧ 0 ≤ r ∧ r ≤ 5 ∧ 0 ≤ d ∧ d ≤ 100
def JobOk (d v c : Int) (f : Option Int) : Prop := (0 ≤ d ∧ d ≤ 1000) ∧ (0 ≤ v ∧ v ≤ 999) ∧ (0 ≤ c ∧ c ≤ 100) ∧ ∀ x, f = some x → 0 ≤ x ∧ x ≤ 999
inductive OkP : Pl → Prop where
  | job {d : Int} {g : Bool} {v c : Int} {f : Option Int} (h : JobOk d v c f) : OkP (.job d g v c f)
  | node {k : Kd} {ps : List Pl} (hk : KdOk k ps.length) (h : ∀ p ∈ ps, OkP p) : OkP (.node k ps)
/-! ### the greatest of some -/
theorem foldl_max_le {l : List Int} : ∀ {a m : Int}, a ≤ m → (∀ x ∈ l, x ≤ m) → l.foldl max a ≤ m := by
  induction l with
  | nil => intro a m h _; exact h
  | cons x r ih =>
    intro a m h hx
    exact ih (Int.max_le.mpr ⟨h, hx x (List.mem_cons_self ..)⟩) fun y hy => hx y (List.mem_cons_of_mem _ hy)
theorem le_foldl_max {l : List Int} : ∀ {a : Int}, a ≤ l.foldl max a ∧ ∀ x ∈ l, x ≤ l.foldl max a := by
  induction l with
  | nil => intro a; exact ⟨Int.le_refl _, by simp⟩
  | cons x r ih =>
    intro a
    obtain ⟨h1, h2⟩ := ih (a := max a x)
    refine ⟨Int.le_trans (Int.le_max_left ..) h1, fun y hy => ?_⟩
    rcases List.mem_cons.mp hy with e | hy
    · rw [e]; exact Int.le_trans (Int.le_max_right ..) h1
    · exact h2 y hy
theorem maxI_le {l : List Int} {m : Int} (h : 0 ≤ m) (hx : ∀ x ∈ l, x ≤ m) : maxI l ≤ m := foldl_max_le h hx
theorem le_maxI {l : List Int} {x : Int} (h : x ∈ l) : x ≤ maxI l := le_foldl_max.2 x h
theorem maxI_nn (l : List Int) : 0 ≤ maxI l := le_foldl_max.1
theorem maxI_mem {l : List Int} (hl : l ≠ []) (hn : ∀ x ∈ l, 0 ≤ x) : maxI l ∈ l := by
  have key : ∀ (l : List Int) (a : Int), l.foldl max a = a ∨ l.foldl max a ∈ l := by
    intro l
    induction l with
    | nil => intro a; exact .inl rfl
    | cons x r ih =>
      intro a
      rcases ih (max a x) with h | h
      · show r.foldl max (max a x) = a ∨ _
        rw [h]
        by_cases c : a ≤ x
        · exact .inr (by show r.foldl max (max a x) ∈ x :: r; rw [h, Int.max_eq_right c]; exact List.mem_cons_self ..)
        · exact .inl (Int.max_eq_left (by omega))
      · exact .inr (List.mem_cons_of_mem _ h)
  rcases key l 0 with h | h
  · cases l with
    | nil => exact absurd rfl hl
    | cons x r =>
      have h1 : x ≤ maxI (x :: r) := le_maxI (List.mem_cons_self ..)
      have h2 := hn x (List.mem_cons_self ..)
      have h3 : maxI (x :: r) = 0 := h
      have : x = 0 := by omega
      rw [h3, ← this]
      exact List.mem_cons_self ..
  · exact h
/-- the greatest, told by what it is -/
theorem maxI_eq {l : List Int} {m : Int} (hm : m ∈ l) (hx : ∀ x ∈ l, x ≤ m) (h0 : 0 ≤ m) : maxI l = m := Int.le_antisymm (maxI_le h0 hx) (le_maxI hm)
theorem maxI_app (l r : List Int) : maxI (l ++ r) = max (maxI l) (maxI r) := by
  apply Int.le_antisymm
  · refine maxI_le (Int.le_trans (maxI_nn l) (Int.le_max_left ..)) fun x hx => ?_
    rcases List.mem_append.mp hx with h | h
    · exact Int.le_trans (le_maxI h) (Int.le_max_left ..)
    · exact Int.le_trans (le_maxI h) (Int.le_max_right ..)
  · refine Int.max_le.mpr ⟨maxI_le (maxI_nn _) fun x hx => le_maxI (List.mem_append_left _ hx), maxI_le (maxI_nn _) fun x hx => le_maxI (List.mem_append_right _ hx)⟩
theorem maxI_one {x : Int} (h : 0 ≤ x) : maxI [x] = x := Int.max_eq_right h
/-! ### sizes by the nodes' row -/
structure Row where
  deep : Int
  runs : Int
  clean : Int
def rowN (rs : List Row) (i : Int) : Row := rs.getD i.toNat ⟨0, 0, 0⟩
def rowAt (rs : List Row) : Nd → Row
  | .job _ _ _ c _ => ⟨1, 1, c⟩
  | .whole k ps => ⟨1 + maxI (ps.map fun i => (rowN rs i).deep), times k * (ps.map fun i => (rowN rs i).runs).sum, maxI (ps.map fun i => (rowN rs i).clean)⟩
def rowsOn (rs : List Row) (ns : List Nd) : List Row := ns.foldl (fun rs n => rs ++ [rowAt rs n]) rs
def Pl.row (p : Pl) : Row := ⟨p.depth, p.runs, p.clean⟩
mutual
def Pl.rows : Pl → List Row
  | .job d g v c f => [Pl.row (.job d g v c f)]
  | .node k ps => Pl.rowsL ps ++ [Pl.row (.node k ps)]
def Pl.rowsL : List Pl → List Row
  | [] => []
  | p :: r => p.rows ++ Pl.rowsL r
end
mutual
theorem rows_length : ∀ p : Pl, p.rows.length = p.size
  | .job .. => by simp [Pl.rows, Pl.size]
  | .node k ps => by have h := rowsL_length ps; simp [Pl.rows, Pl.size, h]
theorem rowsL_length : ∀ ps : List Pl, (Pl.rowsL ps).length = Pl.sizeL ps
  | [] => by simp [Pl.rowsL, Pl.sizeL]
  | p :: r => by have h := rows_length p; have h2 := rowsL_length r; simp [Pl.rowsL, Pl.sizeL, h, h2]
end
theorem rows_last (p : Pl) : p.rows[p.size - 1]? = some p.row := by
  cases p with
  | job d g v c f => simp [Pl.rows, Pl.size]
  | node k ps =>
    have h := rowsL_length ps
    rw [Pl.rows, Pl.size, List.getElem?_append_right (by omega)]
    simp [h]
theorem roots_rows : ∀ (ps : List Pl) (rs : List Row) (o : Nat) (tl : List Row), rs.length = o → (roots o ps).map (rowN (rs ++ Pl.rowsL ps ++ tl)) = ps.map Pl.row
  | [], rs, o, tl, h => rfl
  | p :: r, rs, o, tl, h => by
    have hp := size_pos p
    have ih := roots_rows r (rs ++ p.rows) (o + p.size) tl (by rw [List.length_append, rows_length, h])
    have e1 : rs ++ Pl.rowsL (p :: r) ++ tl = rs ++ p.rows ++ Pl.rowsL r ++ tl := by rw [Pl.rowsL]; simp [List.append_assoc]
    rw [e1]
    show rowN _ _ :: (roots (o + p.size) r).map _ = _
    rw [ih]
    refine congrArg (· :: r.map Pl.row) ?_
    unfold rowN
    rw [Int.toNat_natCast, List.getD_eq_getElem?_getD]
    have e2 : (rs ++ p.rows ++ Pl.rowsL r ++ tl)[o + p.size - 1]? = some p.row := by
      rw [List.append_assoc, List.append_assoc, List.getElem?_append_right (by omega), List.getElem?_append_left (by rw [rows_length]; omega)]
      rw [show o + p.size - 1 - rs.length = p.size - 1 by omega]
      exact rows_last p
    rw [e2] <;> rfl
theorem rowsOn_app (rs : List Row) (a b : List Nd) : rowsOn rs (a ++ b) = rowsOn (rowsOn rs a) b := by
  unfold rowsOn
  rw [List.foldl_append]
mutual
theorem rowsOn_flat : ∀ (p : Pl) (rs : List Row) (o : Nat), rs.length = o → rowsOn rs (p.flat o) = rs ++ p.rows
  | .job d g v c f, rs, o, h => by simp [Pl.flat, Pl.rows, rowsOn, rowAt, Pl.row, Pl.depth, Pl.runs, Pl.clean]
  | .node k ps, rs, o, h => by
    have ih := rowsOn_flatL ps rs o h
    rw [Pl.flat, rowsOn_app, ih, Pl.rows, ← List.append_assoc]
    show rs ++ Pl.rowsL ps ++ [rowAt (rs ++ Pl.rowsL ps) (.whole k (roots o ps))] = _
    refine congrArg (fun x => rs ++ Pl.rowsL ps ++ [x]) ?_
    have e := roots_rows ps rs o [] h
    rw [List.append_nil] at e
    have m : ∀ f : Row → Int, (roots o ps).map (fun i => f (rowN (rs ++ Pl.rowsL ps) i)) = ps.map fun p => f p.row := fun f => by
      have e2 := congrArg (List.map f) e
      rw [List.map_map, List.map_map] at e2
      exact e2
    show (⟨_, _, _⟩ : Row) = ⟨_, _, _⟩
    rw [m Row.deep, m Row.runs, m Row.clean, Pl.depth, Pl.runs, Pl.clean, depthL_map, runsL_map, cleanL_map]
    all_goals rfl
theorem rowsOn_flatL : ∀ (ps : List Pl) (rs : List Row) (o : Nat), rs.length = o → rowsOn rs (Pl.flatL o ps) = rs ++ Pl.rowsL ps
  | [], rs, o, h => by simp [Pl.flatL, Pl.rowsL, rowsOn]
  | p :: r, rs, o, h => by
    have h1 := rowsOn_flat p rs o h
    have h2 := rowsOn_flatL r (rs ++ p.rows) (o + p.size) (by rw [List.length_append, rows_length, h])
    rw [Pl.flatL, rowsOn_app, h1, h2, Pl.rowsL, List.append_assoc]
end
/-! ### the jobs' cleanups -/
def Nd.clean? : Nd → Option Int
  | .job _ _ _ c _ => some c
  | .whole .. => none
def cleans (ns : List Nd) : List Int := ns.filterMap Nd.clean?
mutual
theorem clean_flat : ∀ (p : Pl) (o : Nat), OkP p → p.clean = maxI (cleans (p.flat o)) ∧ 0 ≤ p.clean
  | .job d g v c f, o, h => by
    cases h with
    | job h =>
      have h0 := h.2.2.1.1
      refine ⟨?_, by rw [Pl.clean]; exact h0⟩
      rw [Pl.clean, Pl.flat]
      show c = maxI [c]
      rw [maxI_one h0]
  | .node k ps, o, h => by
    cases h with
    | node hk h =>
      have e := clean_flatL ps o h
      refine ⟨?_, by rw [Pl.clean]; exact maxI_nn _⟩
      rw [Pl.clean, Pl.flat, e]
      show _ = maxI (List.filterMap Nd.clean? (Pl.flatL o ps ++ [Nd.whole k (roots o ps)]))
      rw [List.filterMap_append]
      show maxI (cleans (Pl.flatL o ps)) = maxI (cleans (Pl.flatL o ps) ++ [])
      rw [List.append_nil]
theorem clean_flatL : ∀ (ps : List Pl) (o : Nat), (∀ p ∈ ps, OkP p) → maxI (Pl.cleanL ps) = maxI (cleans (Pl.flatL o ps))
  | [], o, h => by simp [Pl.cleanL, Pl.flatL, cleans]
  | p :: r, o, h => by
    obtain ⟨h1, h0⟩ := clean_flat p o (h p (List.mem_cons_self ..))
    have h2 := clean_flatL r (o + p.size) fun q hq => h q (List.mem_cons_of_mem _ hq)
    rw [Pl.cleanL, Pl.flatL]
    show maxI ([p.clean] ++ Pl.cleanL r) = maxI (List.filterMap Nd.clean? (p.flat o ++ Pl.flatL (o + p.size) r))
    rw [maxI_app, maxI_one h0, List.filterMap_append, h1]
    show max _ (maxI (Pl.cleanL r)) = maxI (cleans (p.flat o) ++ cleans (Pl.flatL (o + p.size) r))
    rw [maxI_app, h2]
end
end LB

set_option maxRecDepth 100000
set_option maxHeartbeats 2000000
namespace LB
open PySem PySem.Spec PyProof.Rows L2
/-! ### data of a short repr -/
structure Td (d : PyData) (k m : Nat) : Prop where
  sh : d.showable = true
  nd : d.hasDict = false
  dp : d.depth ≤ k
  lv : d.leavesShort 13 = true
  bk : d.bulk ≤ m
structure TdA (ds : List PyData) (k m : Nat) : Prop where
  sh : PyData.showableAll ds = true
  nd : PyData.hasDictAll ds = false
  dp : PyData.depthAll ds ≤ k
  lv : PyData.leavesShortAll 13 ds = true
  bk : PyData.bulkAll ds ≤ m
theorem Td.short {d : PyData} {k m : Nat} (h : Td d k m) (hk : k ≤ 50) (hm : m ≤ 1048576) : Short d := .of h.sh h.nd (Nat.le_trans h.dp hk) h.lv (Nat.le_trans h.bk (Nat.le_trans hm (by decide)))
theorem Td.up {d : PyData} {k m k' m' : Nat} (h : Td d k m) (hk : k ≤ k') (hm : m ≤ m') : Td d k' m' := ⟨h.sh, h.nd, Nat.le_trans h.dp hk, h.lv, Nat.le_trans h.bk hm⟩
theorem TdA.up {d : List PyData} {k m k' m' : Nat} (h : TdA d k m) (hk : k ≤ k') (hm : m ≤ m') : TdA d k' m' := ⟨h.sh, h.nd, Nat.le_trans h.dp hk, h.lv, Nat.le_trans h.bk hm⟩
theorem Td.non : Td .none 0 0 := ⟨rfl, rfl, Nat.le_refl _, rfl, Nat.le_refl _⟩
theorem Td.int {i : Int} (h : Sm i) : Td (.int i) 0 0 := ⟨decide_eq_true (log_small h), rfl, Nat.le_refl _, decide_eq_true (leaf_small h), Nat.le_refl _⟩
theorem Td.str {x : Str} (h : (x.cps.toList.all fun c => decide (c < 16 ^ 8)) = true) : Td (.str x) 0 x.cps.size := ⟨rfl, rfl, Nat.le_refl _, h, Nat.le_refl _⟩
theorem TdA.nil {k : Nat} : TdA [] k 0 := ⟨rfl, rfl, Nat.zero_le _, rfl, Nat.le_refl _⟩
theorem TdA.cons {d : PyData} {ds : List PyData} {k m m' : Nat} (h : Td d k m) (r : TdA ds k m') : TdA (d :: ds) k (m + 1 + m') := by
  refine ⟨?_, ?_, ?_, ?_, ?_⟩
  · show (PyData.showable d && PyData.showableAll ds) = true
    rw [h.sh, r.sh] <;> rfl
  · show (PyData.hasDict d || PyData.hasDictAll ds) = false
    rw [h.nd, r.nd] <;> rfl
  · show max d.depth (PyData.depthAll ds) ≤ k
    have := h.dp
    have := r.dp
    omega
  · show (PyData.leavesShort 13 d && PyData.leavesShortAll 13 ds) = true
    rw [h.lv, r.lv] <;> rfl
  · show d.bulk + 1 + PyData.bulkAll ds ≤ _
    have := h.bk
    have := r.bk
    omega
theorem Td.tup {ds : List PyData} {k m : Nat} (h : TdA ds k m) : Td (.tuple ds) (k + 1) m := ⟨h.sh, h.nd, Nat.succ_le_succ h.dp, h.lv, h.bk⟩
theorem Td.lst {ds : List PyData} {k m : Nat} (h : TdA ds k m) : Td (.list ds) (k + 1) m := ⟨h.sh, h.nd, Nat.succ_le_succ h.dp, h.lv, h.bk⟩
theorem TdA.of {ds : List PyData} {k m : Nat} (h : ∀ d ∈ ds, Td d k m) : TdA ds k (ds.length * (m + 1)) := by
  induction ds with
  | nil => exact TdA.nil.up (Nat.le_refl _) (Nat.zero_le _)
  | cons d r ih =>
    refine (TdA.cons (h d (List.mem_cons_self ..)) (ih fun x hx => h x (List.mem_cons_of_mem _ hx))).up (Nat.le_refl _) ?_
    rw [List.length_cons, Nat.succ_mul]
    omega
theorem TdA.ints {ns : List Int} (h : ∀ n ∈ ns, Sm n) : TdA (ns.map PyData.int) 0 ns.length := by
  have := TdA.of (ds := ns.map PyData.int) (k := 0) (m := 0) fun d hd => by
    obtain ⟨n, hn, e⟩ := List.mem_map.mp hd
    rw [← e]
    exact .int (h n hn)
  rw [List.length_map, Nat.mul_one] at this
  exact this
theorem Td.bool {b : Bool} : Td (.bool b) 0 0 := ⟨rfl, rfl, Nat.le_refl _, (by cases b <;> decide), Nat.le_refl _⟩
end LB

set_option maxRecDepth 100000
set_option maxHeartbeats 4000000
namespace LB
open PySem PySem.Spec PyProof.Rows L2
/-! ### tuple * 0, tuple * 1 -/
theorem tup_mul_one (l : Addr) (items : Array Value) (n : Nat) (dd : Option Addr) (sl : Array (Option Value)) (u : Tok) :
    Meets (Builtin.«tuple.__mul__» ⟨[.ref l, .int 1 u], []⟩) (fun _ R s => s.heap.get? l = some { cls := .type "tuple", dict := dd, data := .seq items n, slots := sl } ∧ R (.ok (.ret (Value.ref l))) s) :=
  .of_wp fun prog w A R s h => by
    obtain ⟨hp, g, d, tk, os⟩ := s
    obtain ⟨hl, h⟩ := h
    have f1 := AutoSeq1.idx_int
    wp_walk using wpAny_loadPart' hl
    repeat (first
      | (refine wpAny_ite_false (by decide) ?_; wp_walk using wpAny_loadPart' hl)
      | (refine wpAny_ite_true (by decide) ?_; wp_walk using wpAny_loadPart' hl)
      | (refine wpAny_ite_true (by simp) ?_; wp_walk using wpAny_loadPart' hl))
    exact ⟨_, rfl, h⟩
theorem tup_mul_zero (l : Addr) (items : Array Value) (n : Nat) (dd : Option Addr) (sl : Array (Option Value)) (u : Tok) (c1 : items.isEmpty = false) :
    Meets (Builtin.«tuple.__mul__» ⟨[.ref l, .int 0 u], []⟩) (fun _ R s => s.heap.get? l = some { cls := .type "tuple", dict := dd, data := .seq items n, slots := sl } ∧
      R (.ok (.ret (Value.ref s.heap.objs.size))) { s with heap := s.heap.push { cls := Value.type "tuple", data := Data.seq #[] }, toks := s.toks }) :=
  .of_wp fun prog w A R s h => by
    obtain ⟨hp, g, d, tk, os⟩ := s
    obtain ⟨hl, h⟩ := h
    have f1 := AutoSeq1.idx_int
    wp_walk using wpAny_loadPart' hl
    exact ⟨_, rfl, h⟩
def rRepA (K : PySem.W.Frag) : R2 := fun x y H Q => ∃ l k xs, x = .ref l ∧ y = .int k ∧ SqT K H l xs ∧ xs ≠ [] ∧ 0 ≤ k ∧ k ≤ 1000 ∧ xs.length ≤ 1000 ∧ (k = 1 → Q (.ref l) H) ∧
  (k ≠ 1 → ∀ p, H p = none → Q (.ref p) (upd H p (.tup (List.replicate k.toNat xs).flatten)))
theorem op_repA {X : Cx} : OpR X (binaryOp .Mult) (rRepA X.K) := by
  intro pins s σ H x y v u Q I rx ry h
  obtain ⟨l, k, xs, rfl, rfl, hT, hne, h1, h2, hz, q1, q⟩ := h
  by_cases c : 2 ≤ k
  · exact op_repT pins s σ H _ _ v u Q I rx ry ⟨l, k, xs, rfl, rfl, hT, hne, c, h2, hz, q (by omega)⟩
  cases rx
  obtain ⟨t, rfl⟩ := ry
  obtain ⟨its, r, ⟨⟨cls, dd, data, sl⟩, ho, hc, n, hd⟩, hs⟩ := I.tuple hT
  simp only at hc hd
  subst hc hd
  have hle : its.length = xs.length := r.length.symm
  have hi : its.toArray.isEmpty = false := by
    cases its with
    | nil => exact absurd (List.eq_nil_of_length_eq_zero hle.symm) hne
    | cons a b => rfl
  by_cases c1 : k = 1
  · subst c1
    exact wpAny_binaryOp_repeat_ref (T := "tuple") (U := "int") (by decide) ⟨_, ho, rfl⟩ (fun s' => typeIs_int s' 1 t) noFill_tuple_mul F.fills_int_mul F.slot_int_rmul repeat_tuple F.slot_int_index.lookup
      (call_meets F.slot_int_rmul (typeIs_int s 1 t) F.entry_int_rmul (F.args_int_rmul_2 _ _) (int_rmul_tuple 1 t l its.toArray n dd sl)
        ⟨ho, rfl, ⟨_, ho, rfl⟩, call_meets F.slot_tuple_mul ⟨_, ho, rfl⟩ F.entry_tuple_mul (F.args_tuple_mul_2 _ _) (tup_mul_one l its.toArray n dd sl t) ⟨ho, ⟨.ref l, H, I, rfl, q1 rfl⟩⟩⟩)
  · have e : k = 0 := by omega
    subst e
    refine wpAny_binaryOp_repeat_ref (T := "tuple") (U := "int") (by decide) ⟨_, ho, rfl⟩ (fun s' => typeIs_int s' 0 t) noFill_tuple_mul F.fills_int_mul F.slot_int_rmul repeat_tuple F.slot_int_index.lookup
      (call_meets F.slot_int_rmul (typeIs_int s 0 t) F.entry_int_rmul (F.args_int_rmul_2 _ _) (int_rmul_tuple 0 t l its.toArray n dd sl)
        ⟨ho, rfl, ⟨_, ho, rfl⟩, call_meets F.slot_tuple_mul ⟨_, ho, rfl⟩ F.entry_tuple_mul (F.args_tuple_mul_2 _ _) (tup_mul_zero l its.toArray n dd sl t hi) ⟨ho, ?_⟩⟩)
    have hp := I.hok.fresh (Nat.le_refl _)
    exact ⟨.ref s.heap.objs.size, _, I.laid (t' := s.toks) (o := .tup []) (fun b ob q => Heap.get?_push_of_some _ q) (Nat.le_refl _) ⟨Nat.zero_le _, [], .nil, IsTup.new _ _⟩, rfl, q (by decide) _ hp⟩
end LB

set_option maxRecDepth 100000
set_option maxHeartbeats 2000000
namespace LB
open PySem PySem.Spec PyProof.Rows L2
def top (i : Nat) : Stmt := PySem.Challenge.pw_asforetold_k61_books_take_each_once.main.body.getD i (.Pass ⟨0, 0, 0, 0⟩)
abbrev bkInit : Stmt := inClass (top 5) 0
abbrev bkTake : Stmt := inClass (top 5) 1
abbrev bkEffects : Stmt := inClass (top 5) 2
abbrev sCell : Stmt := top 7
abbrev sDigits : Stmt := top 8
abbrev sDraw : Stmt := top 9
abbrev sAlike : Stmt := top 10
abbrev sTake : Stmt := top 11
abbrev sPath : Stmt := top 12
abbrev sLaw : Stmt := top 13
end LB

set_option maxRecDepth 100000
set_option maxHeartbeats 4000000
namespace LB
open PySem PySem.Spec PyProof.Rows L2
/-! ### the helpers of a law -/
/-- built-ins' names that the module leaves free -/
structure Names (mg : Str → Option Value) : Prop where
  len : mg "len" = none
  range : mg "range" = none
  int : mg "int" = none
  repr : mg "repr" = none
section
variable {P : Program} {w : World} {K : PySem.W.Frag} {mg : Str → Option Value} {base : Heap}
/-- some int comes back -/
def spCellL (K : PySem.W.Frag) : Sp := fun vs H Q _ => ∃ (a : Addr) (ns : List Int) (k : Int), vs = [.ref a, .int k] ∧ SqL K H a (ns.map V.int) ∧ 0 ≤ k ∧ ∀ c : Int, Q (.int c) H
theorem scCell : FnScope ["script", "k"] ["script", "k"] (defScope sCell) := ⟨rfl, rfl, rfl, by decide +kernel, rfl, by decide +kernel, by decide +kernel⟩
theorem ok_cell {f : Addr} {fd : FuncData} (F : Fun K "_law_cell" "_law_cell" sCell f fd) (M : Names mg) : FnOk P w K mg base CX0 1 f fd ["script", "k"] (spCellL K) := by
  refine F.ok scCell (fun vs H Q E h => ?_) (fun cdv A outer s H vs Q E hr h => ?_)
  · obtain ⟨a, ns, k, rfl, _⟩ := h
    rfl
  · obtain ⟨a, ns, k, rfl, hS, h0, q⟩ := h
    refine ⟨_, (pss_cons (ps_if (pt_cmpR op_lt (pv 1) (pe_callB call_len_seq (by rfl) M.len PySem.boot_len (pa_cons (pv 0) pa_nil)) (nomark _)) (pss_one (ps_ret (pe_ix ix_list (pv 0) (pv 1) (fun _ _ => rfl)))) pss_nil)
        (pss_one (ps_ret pe_int))), ?_⟩
    refine ⟨_, rfl, _, rfl, a, _, rfl, .inl hS, _, _, rfl, rfl, _, rfl, ?_⟩
    refine ite2 (fun c => ?_) (fun c => q 0)
    have lt := of_decide_eq_true c
    rw [List.length_map] at lt
    obtain ⟨j, rfl⟩ : ∃ j : Nat, k = (j : Int) := ⟨k.toNat, by omega⟩
    have hj : j < ns.length := by omega
    exact ⟨_, rfl, _, rfl, a, _, _, _, rfl, rfl, hS, atI_nat (v := V.int ns[j]) (by rw [List.getElem?_map, List.getElem?_eq_getElem hj]; rfl), q _⟩
/-- a number of three digits at most -/
def Dig (i : Int) : Prop := 0 ≤ i ∧ i < 1000
/-- a new list of at most 63 * 60 such numbers -/
def spDigits (K : PySem.W.Frag) : Sp := fun vs H Q _ => ∃ (a : Addr) (ns : List Int) (i j : Int), vs = [.ref a, .int i, .int j] ∧ SqL K H a (ns.map V.int) ∧ 0 ≤ i ∧ i ≤ j ∧ j ≤ 63 ∧
  ∀ (ds : List Int) (H' : Hp) (p : Addr), Same H H' → H p = none → H' p = some (.lst (ds.map V.int)) → (∀ d ∈ ds, Dig d) → ds.length ≤ 3780 → Q (.ref p) H'
theorem scDigits : FnScope ["script", "first", "last", "digits", "k", "cell", "turn", "seed"] ["script", "first", "last"] (defScope sDigits) := ⟨rfl, rfl, rfl, by decide +kernel, rfl, by decide +kernel, by decide +kernel⟩
theorem same_upd {H H' : Hp} {p : Addr} {o : HO} (e : Same H H') (n : H p = none) : Same H (upd H' p o) := fun b u q => by
  rw [upd_ne (ne_of_none q n)]
  exact e b u q
theorem dig_more {c : Int} {ds : List Int} (h : ∀ d ∈ ds, Dig d) : ∀ d ∈ ds ++ [c % 1000], Dig d := by
  intro d hd
  rcases List.mem_append.mp hd with h1 | h1
  · exact h d h1
  · rw [List.mem_singleton.mp h1]
    exact ⟨Int.emod_nonneg _ (by decide), Int.emod_lt_of_pos _ (by decide)⟩
theorem lst_more {ds : List Int} {c : Int} : HO.lst (ds.map V.int ++ [V.int c]) = HO.lst ((ds ++ [c]).map V.int) := by rw [List.map_append] <;> rfl
theorem small_line {n : Nat} (h : n ≤ 4000) : n < sizeLine := Nat.lt_of_le_of_lt h (by decide)
theorem ok_digits {f fC : Addr} {fd fdC : FuncData} (F : Fun K "_law_digits" "_law_digits" sDigits f fd) (M : Names mg) (FC : Fun K "_law_cell" "_law_cell" sCell fC fdC) (mCell : mg "_law_cell" = some (.ref fC)) (bCell : Binds K fdC ["script", "k"] []) :
    FnOk P w K mg base CX0 2 f fd ["script", "first", "last"] (spDigits K) := by
  have GCell : FnOk P w K mg base CX0 1 fC fdC ["script", "k"] (spCellL K) := ok_cell FC M
  have kCell := FC.kp
  refine F.ok scDigits (fun vs H Q E h => ?_) (fun cdv A outer s H vs Q E hr h => ?_)
  · obtain ⟨a, ns, i, j, rfl, _⟩ := h
    rfl
  · obtain ⟨a, ns, i, j, rfl, hS, h0, hij, hj, q⟩ := h
    have nd := scDigits.nd
    refine ⟨_, (pss_cons (ps_set (i := 3) nd rfl (Or.inl rfl) (pe_lst pa_nil))
        (pss_cons (ps_for PassesOwn.never rfl (pi_range2 (by rfl) M.range (pa_cons (pv 1) (pa_cons (pv 2) pa_nil))) (pg_name (i := 4) nd rfl (Or.inl rfl)) (pss_cons (ps_set (i := 5) nd rfl (Or.inl rfl) (pe_call GCell (hr.mono (by decide)) rfl mCell kCell bCell .nil pass0 (pa_cons (pv 0) (pa_cons (pv 4) pa_nil))))
        (pss_cons (ps_if (pt_cmpR op_lt (pv 5) pe_int (nomark _)) (pss_one (ps_set (i := 5) nd rfl (Or.inl rfl) (pe_op op_sub pe_int (pe_op op_mul pe_int (pv 5))))) pss_nil)
        (pss_one (ps_if (pt_cmpR op_ge (pv 5) pe_int (nomark _)) (pss_one (ps_for PassesOwn.never rfl (pi_range1 (by rfl) M.range (pa_cons pe_int pa_nil)) (pg_name (i := 6) nd rfl (Or.inl rfl)) (pss_one (ps_if (pt_cmpR op_gt (pv 5) pe_int (nomark _)) (pss_cons (ps_expr (pe_bm PySem.F.plainAttrs_list PySem.F.slot_list_append PySem.F.type_list_append mt_append (pv 3) (pa_cons (pe_op op_mod (pe_callTy call_int1 (by rfl) M.int (by decide +kernel) (pa_cons (pv 5) pa_nil)) pe_int) pa_nil)))
        (pss_one (ps_set (i := 5) nd rfl (Or.inl rfl) (pe_op op_fdiv (pv 5) pe_int)))) pss_nil)))) (pss_cons (ps_set (i := 7) nd rfl (Or.inl rfl) (pe_op op_mod (pe_callTy call_int1 (by rfl) M.int (by decide +kernel) (pa_cons (pe_op op_add (pe_op op_add (pe_op op_mul (pv 5) pe_int) (pe_op op_mul (pv 4) pe_int)) pe_int) pa_nil)) pe_int))
        (pss_one (ps_for PassesOwn.never rfl (pi_range1 (by rfl) M.range (pa_cons pe_int pa_nil)) (pg_name (i := 6) nd rfl (Or.inl rfl)) (pss_cons (ps_set (i := 7) nd rfl (Or.inl rfl) (pe_op op_mod (pe_callTy call_int1 (by rfl) M.int (by decide +kernel) (pa_cons (pe_op op_add (pe_op op_add (pe_op op_mul (pv 7) pe_int) (pe_op op_mul pe_int (pv 6))) pe_int) pa_nil)) pe_int))
        (pss_one (ps_expr (pe_bm PySem.F.plainAttrs_list PySem.F.slot_list_append PySem.F.type_list_append mt_append (pv 3) (pa_cons (pe_op op_mod (pe_callTy call_int1 (by rfl) M.int (by decide +kernel) (pa_cons (pe_op op_fdiv (pv 7) pe_int) pa_nil)) pe_int) pa_nil)))))))))))))
        (pss_one (ps_ret (pv 3))))), ?_⟩
    refine ⟨(by show 0 ≤ sizeLine; decide), fun p hp => ?_⟩
    refine ⟨_, rfl, _, rfl, i, j, rfl, ⟨by omega, by omega, by omega, by omega⟩, ?_⟩
    refine for_range (lo := i) (n := (j - i).toNat) (fun m σ H' => ∃ (ds : List Int) (v4 v5 v6 v7 : Option V), σ = [some (.ref a), some (.int i), some (.int j), some (.ref p), v4, v5, v6, v7] ∧ Same H H' ∧ H' p = some (.lst (ds.map V.int)) ∧ (∀ d ∈ ds, Dig d) ∧ ds.length ≤ 60 * m)
      ⟨[], none, none, none, none, rfl, same_upd (Same.refl H) hp, upd_same, by simp, by simp⟩ ?_ ?_
    · rintro m σ H' hm ⟨ds, v4, v5, v6, v7, rfl, sm, hl, hd, hlen⟩
      refine ⟨_, rfl, _, rfl, a, ns, _, rfl, sm.seq hS, by omega, fun c => ?_⟩
      refine ⟨_, rfl, _, _, rfl, rfl, _, rfl, ?_⟩
      refine ite2 (fun _ => ?_) (fun _ => ?_)
      · refine ⟨_, rfl, _, _, rfl, rfl, .inl ⟨by decide, by decide⟩, _, _, rfl, rfl, ?_⟩
        generalize (1 : Int) - 2 * c = c'
        (refine ⟨_, rfl, _, _, rfl, rfl, _, rfl, ?_⟩
         refine ite2 (fun _ => ?_) (fun _ => ?_)
         · refine ⟨60, rfl, by decide, by decide, for_range (n := 60) (fun t σ H2 => ∃ (ds : List Int) (c : Int) (v6 : Option V), σ = [some (.ref a), some (.int i), some (.int j), some (.ref p), some (.int (i + m)), some (.int c), v6, v7] ∧ Same H H2 ∧ H2 p = some (.lst (ds.map V.int)) ∧ (∀ d ∈ ds, Dig d) ∧ ds.length ≤ 60 * m + t)
             ⟨ds, _, v6, rfl, sm, hl, hd, by omega⟩ ?_ ?_⟩
           · rintro t σ H2 ht ⟨ds, c, v6, rfl, sm, hl, hd, hlen⟩
             refine ⟨_, rfl, _, _, rfl, rfl, _, rfl, ?_⟩
             refine ite2 (fun _ => ?_) (fun _ => ?_)
             · refine ⟨_, rfl, .inl ⟨rfl, _, SqL.of hl⟩, _, rfl, .inl ⟨_, rfl, _, _, rfl, rfl, (by show (0 : Int) < 1000; decide), p, _, _, rfl, rfl, hl, (by rw [List.length_map]; exact small_line (by omega)), ?_⟩⟩
               refine ⟨_, rfl, _, _, rfl, rfl, ⟨by decide, by decide⟩, ?_⟩
               exact ⟨ds ++ [c % 1000], _, _, rfl, same_upd sm hp, upd_same.trans (congrArg some lst_more), dig_more hd, by rw [List.length_append, List.length_singleton]; omega⟩
             · exact ⟨ds, _, _, rfl, sm, hl, hd, by omega⟩
           · rintro σ H2 ⟨ds, c, v6, rfl, sm, hl, hd, hlen⟩
             exact ⟨ds, _, _, _, _, rfl, sm, hl, hd, by omega⟩
         · refine ⟨_, rfl, _, _, rfl, rfl, .inr ⟨by decide, by decide⟩, _, rfl, _, _, rfl, rfl, .inr ⟨by decide, by decide⟩, _, _, rfl, rfl, _, _, rfl, rfl, .inl ⟨_, rfl, _, _, rfl, rfl, (by show (0 : Int) < 2147483399; decide), ?_⟩⟩
           refine ⟨12, rfl, by decide, by decide, for_range (n := 12) (fun t σ H2 => ∃ (ds : List Int) (c : Int) (v6 : Option V) (s7 : Int), σ = [some (.ref a), some (.int i), some (.int j), some (.ref p), some (.int (i + m)), some (.int c), v6, some (.int s7)] ∧ Same H H2 ∧ H2 p = some (.lst (ds.map V.int)) ∧ (∀ d ∈ ds, Dig d) ∧ ds.length ≤ 60 * m + t)
             ⟨ds, _, v6, _, rfl, sm, hl, hd, by omega⟩ ?_ ?_⟩
           · rintro t σ H2 ht ⟨ds, c, v6, s7, rfl, sm, hl, hd, hlen⟩
             refine ⟨_, rfl, _, _, rfl, rfl, .inr ⟨by decide, by decide⟩, _, rfl, _, _, rfl, rfl, .inl ⟨by decide, by decide⟩, _, _, rfl, rfl, _, _, rfl, rfl, .inl ⟨_, rfl, _, _, rfl, rfl, (by show (0 : Int) < 2147483563; decide), ?_⟩⟩
             refine ⟨_, rfl, .inl ⟨rfl, _, SqL.of hl⟩, _, rfl, _, _, rfl, rfl, ⟨by decide, by decide⟩, .inl ⟨_, rfl, _, _, rfl, rfl, (by show (0 : Int) < 1000; decide), p, _, _, rfl, rfl, hl, (by rw [List.length_map]; exact small_line (by omega)), ?_⟩⟩
             exact ⟨ds ++ [_ % 1000], _, _, _, rfl, same_upd sm hp, upd_same.trans (congrArg some lst_more), dig_more hd, by rw [List.length_append, List.length_singleton]; omega⟩
           · rintro σ H2 ⟨ds, c, v6, s7, rfl, sm, hl, hd, hlen⟩
             exact ⟨ds, _, _, _, _, rfl, sm, hl, hd, by omega⟩)
      · (refine ⟨_, rfl, _, _, rfl, rfl, _, rfl, ?_⟩
         refine ite2 (fun _ => ?_) (fun _ => ?_)
         · refine ⟨60, rfl, by decide, by decide, for_range (n := 60) (fun t σ H2 => ∃ (ds : List Int) (c : Int) (v6 : Option V), σ = [some (.ref a), some (.int i), some (.int j), some (.ref p), some (.int (i + m)), some (.int c), v6, v7] ∧ Same H H2 ∧ H2 p = some (.lst (ds.map V.int)) ∧ (∀ d ∈ ds, Dig d) ∧ ds.length ≤ 60 * m + t)
             ⟨ds, _, v6, rfl, sm, hl, hd, by omega⟩ ?_ ?_⟩
           · rintro t σ H2 ht ⟨ds, c, v6, rfl, sm, hl, hd, hlen⟩
             refine ⟨_, rfl, _, _, rfl, rfl, _, rfl, ?_⟩
             refine ite2 (fun _ => ?_) (fun _ => ?_)
             · refine ⟨_, rfl, .inl ⟨rfl, _, SqL.of hl⟩, _, rfl, .inl ⟨_, rfl, _, _, rfl, rfl, (by show (0 : Int) < 1000; decide), p, _, _, rfl, rfl, hl, (by rw [List.length_map]; exact small_line (by omega)), ?_⟩⟩
               refine ⟨_, rfl, _, _, rfl, rfl, ⟨by decide, by decide⟩, ?_⟩
               exact ⟨ds ++ [c % 1000], _, _, rfl, same_upd sm hp, upd_same.trans (congrArg some lst_more), dig_more hd, by rw [List.length_append, List.length_singleton]; omega⟩
             · exact ⟨ds, _, _, rfl, sm, hl, hd, by omega⟩
           · rintro σ H2 ⟨ds, c, v6, rfl, sm, hl, hd, hlen⟩
             exact ⟨ds, _, _, _, _, rfl, sm, hl, hd, by omega⟩
         · refine ⟨_, rfl, _, _, rfl, rfl, .inr ⟨by decide, by decide⟩, _, rfl, _, _, rfl, rfl, .inr ⟨by decide, by decide⟩, _, _, rfl, rfl, _, _, rfl, rfl, .inl ⟨_, rfl, _, _, rfl, rfl, (by show (0 : Int) < 2147483399; decide), ?_⟩⟩
           refine ⟨12, rfl, by decide, by decide, for_range (n := 12) (fun t σ H2 => ∃ (ds : List Int) (c : Int) (v6 : Option V) (s7 : Int), σ = [some (.ref a), some (.int i), some (.int j), some (.ref p), some (.int (i + m)), some (.int c), v6, some (.int s7)] ∧ Same H H2 ∧ H2 p = some (.lst (ds.map V.int)) ∧ (∀ d ∈ ds, Dig d) ∧ ds.length ≤ 60 * m + t)
             ⟨ds, _, v6, _, rfl, sm, hl, hd, by omega⟩ ?_ ?_⟩
           · rintro t σ H2 ht ⟨ds, c, v6, s7, rfl, sm, hl, hd, hlen⟩
             refine ⟨_, rfl, _, _, rfl, rfl, .inr ⟨by decide, by decide⟩, _, rfl, _, _, rfl, rfl, .inl ⟨by decide, by decide⟩, _, _, rfl, rfl, _, _, rfl, rfl, .inl ⟨_, rfl, _, _, rfl, rfl, (by show (0 : Int) < 2147483563; decide), ?_⟩⟩
             refine ⟨_, rfl, .inl ⟨rfl, _, SqL.of hl⟩, _, rfl, _, _, rfl, rfl, ⟨by decide, by decide⟩, .inl ⟨_, rfl, _, _, rfl, rfl, (by show (0 : Int) < 1000; decide), p, _, _, rfl, rfl, hl, (by rw [List.length_map]; exact small_line (by omega)), ?_⟩⟩
             exact ⟨ds ++ [_ % 1000], _, _, _, rfl, same_upd sm hp, upd_same.trans (congrArg some lst_more), dig_more hd, by rw [List.length_append, List.length_singleton]; omega⟩
           · rintro σ H2 ⟨ds, c, v6, s7, rfl, sm, hl, hd, hlen⟩
             exact ⟨ds, _, _, _, _, rfl, sm, hl, hd, by omega⟩)
    · rintro σ H' ⟨ds, v4, v5, v6, v7, rfl, sm, hl, hd, hlen⟩
      exact ⟨_, rfl, q ds H' p sm hp hl hd (by omega)⟩
end
end LB

set_option maxRecDepth 100000
set_option maxHeartbeats 4000000
namespace LB
open PySem PySem.Spec PyProof.Rows L2
/-! ### the box of draws -/
/-- at b: a list of the digits' list and of a place -/
def Box (H : Hp) (b : Addr) : Prop := ∃ (l : Addr) (ds : List Int) (n : Int), H b = some (.lst [.ref l, .int n]) ∧ H l = some (.lst (ds.map V.int)) ∧ b ≠ l ∧ 0 ≤ n ∧ ds.length ≤ 3780
/-- all stands but what is at b, and the list of the digits is the same one -/
structure But (b : Addr) (H H' : Hp) : Prop where
  k : ∀ a o, a ≠ b → H a = some o → H' a = some o
  d : ∀ l n, H b = some (.lst [.ref l, .int n]) → ∃ n' : Int, H' b = some (.lst [.ref l, .int n'])
theorem But.refl (b : Addr) (H : Hp) : But b H H := ⟨fun _ _ _ q => q, fun l n h => ⟨n, h⟩⟩
theorem But.trans {b : Addr} {H H1 H2 : Hp} (x : But b H H1) (y : But b H1 H2) : But b H H2 := ⟨fun a o n q => y.k a o n (x.k a o n q), fun l n h => let ⟨n', h'⟩ := x.d l n h; y.d l n' h'⟩
theorem But.of {b : Addr} {H H' : Hp} (e : Same H H') : But b H H' := ⟨fun a o _ q => e a o q, fun l n h => ⟨n, e _ _ h⟩⟩
theorem But.new {b : Addr} {H H' : Hp} {p : Addr} {o : HO} (x : But b H H') (n : H' p = none) : But b H (upd H' p o) :=
  ⟨fun a u na q => by
    have q' := x.k a u na q
    rw [upd_ne (ne_of_none q' n)]
    exact q', fun l m h => by
    obtain ⟨n', h'⟩ := x.d l m h
    exact ⟨n', by rw [upd_ne (ne_of_none h' n)]; exact h'⟩⟩
theorem But.seqT {K : PySem.W.Frag} {b : Addr} {H H' : Hp} {a : Addr} {xs : List V} (x : But b H H') (ne : ∀ ys, H b ≠ some (.tup ys)) (nf : ∀ o u, H b ≠ some (.frz o u)) (h : SqT K H a xs) : SqT K H' a xs := by
  rcases h with (h | ⟨o, h⟩) | h
  · exact .inl (.inl (x.k a _ (fun z => ne _ (z ▸ h)) h))
  · exact .inl (.inr ⟨o, x.k a _ (fun z => nf _ _ (z ▸ h)) h⟩)
  · exact .inr h
theorem Box.ne {H : Hp} {b : Addr} (B : Box H b) : (∀ ys, H b ≠ some (.tup ys)) ∧ ∀ o u, H b ≠ some (.frz o u) := by
  obtain ⟨l, ds, n, h, _⟩ := B
  rw [h]
  exact ⟨fun ys z => (by cases z), fun o u z => (by cases z)⟩
theorem Box.tup {K : PySem.W.Frag} {b : Addr} {H H' : Hp} {a : Addr} {xs : List V} (B : Box H b) (x : But b H H') (h : SqT K H a xs) : SqT K H' a xs := x.seqT B.ne.1 B.ne.2 h
theorem Box.new {H : Hp} {b p : Addr} {o : HO} (B : Box H b) (n : H p = none) : Box (upd H p o) b := by
  obtain ⟨l, ds, k, h, hl, r⟩ := B
  exact ⟨l, ds, k, by rw [upd_ne (ne_of_none h n)]; exact h, by rw [upd_ne (ne_of_none hl n)]; exact hl, r⟩
section
variable {P : Program} {w : World} {K : PySem.W.Frag} {mg : Str → Option Value} {base : Heap}
def spDraw (K : PySem.W.Frag) : Sp := fun vs H Q _ => ∃ (b : Addr) (m : Int), vs = [.ref b, .int m] ∧ Box H b ∧ 0 < m ∧ ∀ (r : Int) (H' : Hp), 0 ≤ r → r < m → Box H' b → But b H H' → Q (.int r) H'
theorem scDraw : FnScope ["box", "many", "at"] ["box", "many"] (defScope sDraw) := ⟨rfl, rfl, rfl, by decide +kernel, rfl, by decide +kernel, by decide +kernel⟩
theorem ok_draw {f : Addr} {fd : FuncData} (F : Fun K "_law_draw" "_law_draw" sDraw f fd) (M : Names mg) : FnOk P w K mg base CX0 1 f fd ["box", "many"] (spDraw K) := by
  refine F.ok scDraw (fun vs H Q E h => ?_) (fun cdv A outer s H vs Q E hr h => ?_)
  · obtain ⟨b, m, rfl, _⟩ := h
    rfl
  · obtain ⟨b, m, rfl, ⟨l, ds, n, hb, hl, ne, h0, hlen⟩, hm, q⟩ := h
    have nd := scDraw.nd
    refine ⟨_, (pss_cons (ps_set (i := 2) nd rfl (Or.inl rfl) (pe_ix ix_list (pv 0) pe_int (fun _ _ => rfl)))
        (pss_cons (ps_asg (pe_op op_add (pv 2) pe_int) (pg_sub (pv 0) pe_int set_list))
        (pss_cons (ps_if (pt_cmpR op_lt (pv 2) (pe_callB call_len_seq (by rfl) M.len PySem.boot_len (pa_cons (pe_ix ix_list (pv 0) pe_int (fun _ _ => rfl)) pa_nil)) (nomark _)) (pss_one (ps_ret (pe_op op_mod (pe_callTy call_int1 (by rfl) M.int (by decide +kernel) (pa_cons (pe_ix ix_list (pe_ix ix_list (pv 0) pe_int (fun _ _ => rfl)) (pv 2) (fun _ _ => rfl)) pa_nil)) (pv 1)))) pss_nil)
        (pss_one (ps_ret (pe_op op_mod (pe_callTy call_int1 (by rfl) M.int (by decide +kernel) (pa_cons (pe_op op_add (pe_op op_mul (pv 2) pe_int) pe_int) pa_nil)) (pv 1))))))), ?_⟩
    refine ⟨_, rfl, b, _, _, _, rfl, rfl, SqL.of hb, rfl, ?_⟩
    refine ⟨_, rfl, _, _, rfl, rfl, _, rfl, b, _, _, 1, rfl, rfl, hb, rfl, ?_⟩
    have hb' : upd H b (.lst [.ref l, .int (n + 1)]) b = some (.lst [.ref l, .int (n + 1)]) := upd_same
    have hl' : upd H b (.lst [.ref l, .int (n + 1)]) l = some (.lst (ds.map V.int)) := by rw [upd_ne ne.symm]; exact hl
    have B : Box (upd H b (.lst [.ref l, .int (n + 1)])) b := ⟨l, ds, n + 1, hb', hl', ne, by omega, hlen⟩
    have U : But b H (upd H b (.lst [.ref l, .int (n + 1)])) := ⟨fun a o na z => by rw [upd_ne na]; exact z, fun l' n' z => by
      rw [hb] at z
      cases z
      exact ⟨n + 1, hb'⟩⟩
    refine ⟨_, rfl, _, rfl, b, _, _, _, rfl, rfl, SqL.of hb', rfl, l, _, rfl, .inl (SqL.of hl'), _, _, rfl, rfl, _, rfl, ?_⟩
    refine ite2 (fun c => ?_) (fun c => ?_)
    · have lt := of_decide_eq_true c
      rw [List.length_map] at lt
      obtain ⟨j, rfl⟩ : ∃ j : Nat, n = (j : Int) := ⟨n.toNat, by omega⟩
      have hj : j < ds.length := by omega
      refine ⟨_, rfl, b, _, _, _, rfl, rfl, SqL.of hb', rfl, _, rfl, l, _, _, _, rfl, rfl, SqL.of hl', atI_nat (v := V.int ds[j]) (by rw [List.getElem?_map, List.getElem?_eq_getElem hj]; rfl), .inl ⟨_, rfl, _, rfl, _, _, rfl, rfl, hm, ?_⟩⟩
      exact q _ _ (Int.emod_nonneg _ (by omega)) (Int.emod_lt_of_pos _ hm) B U
    · refine ⟨_, rfl, _, _, rfl, rfl, .inr ⟨by decide, by decide⟩, _, _, rfl, rfl, .inl ⟨_, rfl, _, rfl, _, _, rfl, rfl, hm, ?_⟩⟩
      exact q _ _ (Int.emod_nonneg _ (by omega)) (Int.emod_lt_of_pos _ hm) B U
theorem scAlike : FnScope ["one", "two"] ["one", "two"] (defScope sAlike) := ⟨rfl, rfl, rfl, by decide +kernel, rfl, by decide +kernel, by decide +kernel⟩
theorem ok_alike {f : Addr} {fd : FuncData} (F : Fun K "_law_alike" "_law_alike" sAlike f fd) (M : Names mg) : FnG P w K mg base CX0 1 f fd ["one", "two"] (spAlike K) := by
  refine FnG.of_fun F scAlike (fun vs H Q E h => ?_) (fun cdv A outer s H vs Q E gf hr h => ?_)
  · obtain ⟨x, y, d, rfl, _⟩ := h
    rfl
  · obtain ⟨x, y, d, rfl, hx, hy, S, q⟩ := h
    refine ⟨_, (pss_one (ps_ret (pe_cmpR op_eq (pe_callB (call_repr gf hr.units) (by rfl) M.repr PyProof.Rows.boot_repr (pa_cons (pv 0) pa_nil)) (pe_callB (call_repr gf hr.units) (by rfl) M.repr PyProof.Rows.boot_repr (pa_cons (pv 1) pa_nil)) (nomark _)))), ?_⟩
    refine ⟨_, rfl, x, d, rfl, hx, S, _, rfl, y, d, rfl, hy, S, rfl, ?_⟩
    show Q (V.bl (decide (V.str d.shown = V.str d.shown))) _
    rw [decide_eq_true rfl]
    exact q
end
end LB

set_option maxRecDepth 100000
set_option maxHeartbeats 4000000
namespace LB
open PySem PySem.Spec PyProof.Rows L2
/-! ### tuples stay -/
structure Tp (H H' : Hp) : Prop where
  tup : ∀ a xs, H a = some (.tup xs) → H' a = some (.tup xs)
  frz : ∀ a o u, H a = some (.frz o u) → H' a = some (.frz o u)
theorem Tp.refl (H : Hp) : Tp H H := ⟨fun _ _ z => z, fun _ _ _ z => z⟩
theorem Tp.trans {H H1 H2 : Hp} (x : Tp H H1) (y : Tp H1 H2) : Tp H H2 := ⟨fun a xs z => y.tup a xs (x.tup a xs z), fun a o u z => y.frz a o u (x.frz a o u z)⟩
theorem Tp.same {H H' : Hp} (e : Same H H') : Tp H H' := ⟨fun a xs z => e _ _ z, fun a o u z => e _ _ z⟩
theorem Tp.but {b : Addr} {H H' : Hp} (B : Box H b) (e : But b H H') : Tp H H' :=
  ⟨fun a xs z => e.k a _ (fun y => B.ne.1 xs (y ▸ z)) z, fun a o u z => e.k a _ (fun y => B.ne.2 o u (y ▸ z)) z⟩
theorem Tp.lst {H : Hp} {l : Addr} {xs : List V} {o : HO} (h : H l = some (.lst xs)) : Tp H (upd H l o) :=
  ⟨fun a ys z => by rw [upd_ne (ne_of z h (by intro y; cases y))]; exact z, fun a p u z => by rw [upd_ne (ne_of z h (by intro y; cases y))]; exact z⟩
theorem Tp.seq {K : PySem.W.Frag} {H H' : Hp} {a : Addr} {xs : List V} (x : Tp H H') (h : SqT K H a xs) : SqT K H' a xs := by
  rcases h with (h | ⟨o, h⟩) | h
  · exact .inl (.inl (x.tup _ _ h))
  · exact .inl (.inr ⟨o, x.frz _ _ _ h⟩)
  · exact .inr h
theorem Box.apart {H : Hp} {b l : Addr} (B : Box H b) (n : H l = none) : l ≠ b := fun z => by
  obtain ⟨_, _, _, h, _⟩ := B
  rw [z, h] at n
  cases n
theorem Box.keepL {H H' : Hp} {b l : Addr} {xs : List V} (B : Box H b) (n : H l = none) (U : But b (upd H l (.lst xs)) H') : H' l = some (.lst xs) := U.k l _ (B.apart n) upd_same
theorem Box.same {H H' : Hp} {b : Addr} (B : Box H b) (e : Same H H') : Box H' b := by
  obtain ⟨l, ds, k, h, hl, r⟩ := B
  exact ⟨l, ds, k, e _ _ h, e _ _ hl, r⟩
theorem same_new {H : Hp} {p : Addr} {o : HO} (n : H p = none) : Same H (upd H p o) := same_upd (Same.refl H) n
theorem Box.off {H : Hp} {b l : Addr} (B : Box H b) (e : H l = none) : l ≠ b := B.apart e
/-- a list that is not of the box is written -/
theorem Box.put {H0 H : Hp} {b l : Addr} {o : HO} (B0 : Box H0 b) (B : Box H b) (U : But b H0 H) (e : H0 l = none) : Box (upd H l o) b ∧ But b H0 (upd H l o) := by
  have lb := B0.off e
  obtain ⟨l0, d0, n0, hb0, hl0, _⟩ := B0
  obtain ⟨l1, d1, n1, hb1, hl1, ne1, r⟩ := B
  obtain ⟨n', h'⟩ := U.d l0 n0 hb0
  have el : l1 = l0 := by
    rw [hb1] at h'
    have e2 := Option.some.inj h'
    injection e2 with e3
    injection e3 with e4
    exact V.ref.inj e4
  subst el
  have ll : l ≠ l1 := fun z => by rw [z, hl0] at e; cases e
  have U' : But b H0 (upd H l o) := ⟨fun a u na q => by
    have al : a ≠ l := fun z => by rw [z, e] at q; cases q
    rw [upd_ne al]
    exact U.k a u na q, fun l' m q => by
    obtain ⟨m', q'⟩ := U.d l' m q
    exact ⟨m', by rw [upd_ne (Ne.symm lb)]; exact q'⟩⟩
  exact ⟨⟨l1, d1, n1, by rw [upd_ne (Ne.symm lb)]; exact hb1, by rw [upd_ne (Ne.symm ll)]; exact hl1, ne1, r⟩, U'⟩
end LB

set_option maxRecDepth 100000
set_option maxHeartbeats 4000000
namespace LB
open PySem PySem.Spec PyProof.Rows L2
/-! ### words and tests -/
theorem atI_0 {x : V} {xs : List V} : atI (x :: xs) 0 = some x := atI_nat (j := 0) (v := x) (xs := x :: xs) rfl
theorem iteE {x y : Str} {A B : Prop} (h : x = y) (a : A) : if decide (V.str x = V.str y) = true then A else B := by rw [if_pos (decide_eq_true (congrArg V.str h))]; exact a
theorem iteN {x y : Str} {A B : Prop} (h : x ≠ y) (b : B) : if decide (V.str x = V.str y) = true then A else B := by rw [if_neg (fun c => h (V.str.inj (of_decide_eq_true c)))]; exact b
theorem ite_int {x y : Int} {A B : Prop} (h1 : x = y → A) (h2 : x ≠ y → B) : if decide (V.int x = V.int y) = true then A else B :=
  ite2 (fun c => h1 (V.int.inj (of_decide_eq_true c))) (fun c => h2 fun e => c (decide_eq_true (congrArg V.int e)))
theorem inTwo {x a b : Str} (h : inV (V.str x) [V.str a, V.str b] = true) : a = x ∨ b = x := by
  have h : ((a == x) || ((b == x) || false)) = true := h
  rw [Bool.or_false, Bool.or_eq_true] at h
  exact h.imp (fun e => eq_of_beq e) fun e => eq_of_beq e
theorem inTwo_of {x a b : Str} (h : a = x ∨ b = x) : inV (V.str x) [V.str a, V.str b] = true := by
  show ((a == x) || ((b == x) || false)) = true
  rw [Bool.or_false, Bool.or_eq_true]
  exact h.imp (fun e => beq_iff_eq.mpr e) fun e => beq_iff_eq.mpr e
/-! ### data under what stays -/
theorem sqT_same {K : PySem.W.Frag} {H H' : Hp} {a : Addr} {xs : List V} (e : Same H H') (h : SqT K H a xs) : SqT K H' a xs := (Tp.same e).seq h
theorem sqL_same {K : PySem.W.Frag} {H H' : Hp} {a : Addr} {xs : List V} (e : Same H H') (h : SqL K H a xs) : SqL K H' a xs := by
  rcases h with (h | ⟨o, h⟩) | h
  · exact .inl (.inl (e _ _ h))
  · exact .inl (.inr ⟨o, e _ _ h⟩)
  · exact .inr h
mutual
theorem dp_same {K : PySem.W.Frag} {H H' : Hp} (e : Same H H') : ∀ {v : V} {d : PyData}, Dp K H v d → Dp K H' v d
  | _, _, .non => .non
  | _, _, .bl b => .bl b
  | _, _, .int i => .int i
  | _, _, .str x => .str x
  | _, _, .lst h r => .lst (sqL_same e h) (dpAll_same e r)
  | _, _, .tup h r => .tup (sqT_same e h) (dpAll_same e r)
theorem dpAll_same {K : PySem.W.Frag} {H H' : Hp} (e : Same H H') : ∀ {vs : List V} {ds : List PyData}, DpAll K H vs ds → DpAll K H' vs ds
  | _, _, .nil => .nil
  | _, _, .cons h r => .cons (dp_same e h) (dpAll_same e r)
end
theorem dpI {K : PySem.W.Frag} {H : Hp} : ∀ {ns : List Int}, DpAll K H (ns.map V.int) (ns.map PyData.int)
  | [] => .nil
  | n :: r => .cons (.int n) dpI
theorem map_at {ns : List Int} {j : Nat} {x : V} (h : (ns.map V.int)[j]? = some x) : ∃ q, ns[j]? = some q ∧ x = .int q := by
  rw [List.getElem?_map] at h
  obtain ⟨q, h1, h2⟩ := Option.map_eq_some_iff.mp h
  exact ⟨q, h1, h2.symm⟩
theorem free_new {H : Hp} {p p2 : Addr} {o : HO} (n : H p = none) (n2 : (upd H p o) p2 = none) : H p2 = none := by
  by_cases e : p2 = p
  · rw [e]; exact n
  · rw [upd_ne e] at n2
    exact n2
/-- two items, one told before -/
theorem dp_two {K : PySem.W.Frag} {H : Hp} {r : V} {d : PyData} {k : Int} {p : Addr} (n : H p = none) (h : Dp K H r d) : Dp K (upd H p (.tup [r, .int k])) (.ref p) (.tuple [d, .int k]) :=
  .tup (SqT.of upd_same) (.cons (dp_same (same_new n) h) (.cons (.int _) .nil))
/-! ### comprehensions: one more walk -/
theorem in_tup {K : PySem.W.Frag} {a : Addr} {ys : List V} {Nx : Hp → Prop} {R : V → Hp → (Hp → Prop) → Prop} {H4 : Hp} (Pv : Nat → Hp → Prop) (h0 : Pv 0 H4) (hl : ∀ j H, j ≤ ys.length → Pv j H → SqT K H a ys)
    (hs : ∀ j y H, ys[j]? = some y → Pv j H → R y H (Pv (j + 1))) (hd : ∀ H, Pv ys.length H → Nx H) :
    ∃ W1 : Nat → Nat → Hp → Prop, (∃ m, W1 0 m H4) ∧ ∀ j k H, W1 j k H → ((Itt K a).stop j H ∧ Nx H) ∨ ((Itt K a).go j H ∧ ∃ Nx1 : Hp → Prop, (∀ H', Nx1 H' → ∃ k', k' < k ∧ W1 (j + 1) k' H') ∧ ∀ x H', (Itt K a).yld j H x H' → R x H' Nx1) := by
  refine ⟨fun i m H => m = ys.length - i ∧ i ≤ ys.length ∧ Pv i H, ⟨ys.length, by simp, Nat.zero_le _, h0⟩, ?_⟩
  rintro i m H ⟨rfl, hi, p⟩
  have q := hl i H hi p
  by_cases hlt : i < ys.length
  · refine .inr ⟨⟨ys, ys[i], q, by simp [hlt]⟩, Pv (i + 1), fun H' p' => ⟨ys.length - (i + 1), by omega, rfl, hlt, p'⟩, fun x H' y => ?_⟩
    obtain ⟨e, y⟩ := y
    subst e
    exact hs i x _ (y ys q) p
  · have e : i = ys.length := by omega
    subst e
    exact .inl ⟨⟨ys, q, Nat.le_refl _⟩, hd H p⟩
theorem takeS {α : Type} {l : List α} {i : Nat} {x : α} (h : l[i]? = some x) : l.take (i + 1) = l.take i ++ [x] := by
  rw [List.take_add_one, h]
  rfl
theorem ix_listK {X : Cx} {K : PySem.W.Frag} (h : X.K = K) : IxR X (rIxL K) := by
  subst h
  exact ix_list
theorem ix_tupK {X : Cx} {K : PySem.W.Frag} (h : X.K = K) : IxR X (rIxT K) := by
  subst h
  exact ix_tup
def rTupOf (K : PySem.W.Frag) : List V → Hp → VK → Prop := fun xs H Q => ∃ p ys, xs = [V.ref p] ∧ ((SqL K H p ys ∧ ∀ l, H l = none → Q (.ref l) (upd H l (.tup ys))) ∨ SqT K H p ys ∧ Q (.ref p) H)
theorem call_tupleK {X : Cx} {K : PySem.W.Frag} (h : X.K = K) : CallR X (.type "tuple") (rTupOf K) := by
  subst h
  exact call_tuple_of
theorem pi_tupK {X : Cx} {tg : Expr} {K : PySem.W.Frag} (h : X.K = K) {l : Expr} {tl : TE} (hl : PE X l tl) : PI X tg l (iTup K tl) := by
  subst h
  exact pi_tup hl
end LB

set_option maxRecDepth 100000
set_option maxHeartbeats 8000000
namespace LB
open PySem PySem.Spec PyProof.Rows L2
/-! ### effects -/
structure Ef where
  q : List Int
  v : Int
  e : Int × Int
def dEf (e : Ef) : PyData := .tuple [.str "effect", dPa e.q, .int e.v, .tuple [.int e.e.1, .int e.e.2]]
/-- an effect at a -/
def EfAt (K : PySem.W.Frag) (H : Hp) (a : Addr) (e : Ef) : Prop := ∃ (qa ea : Addr), SqT K H a [.str "effect", .ref qa, .int e.v, .ref ea] ∧ SqT K H qa (e.q.map V.int) ∧ SqT K H ea [.int e.e.1, .int e.e.2]
theorem EfAt.tp {K : PySem.W.Frag} {H H' : Hp} {a : Addr} {e : Ef} (t : TpK K H H') (h : EfAt K H a e) : EfAt K H' a e := by
  obtain ⟨qa, ea, h1, h2, h3⟩ := h
  exact ⟨qa, ea, t _ _ h1, t _ _ h2, t _ _ h3⟩
theorem EfAt.dp {K : PySem.W.Frag} {H : Hp} {a : Addr} {e : Ef} (h : EfAt K H a e) : Dp K H (.ref a) (dEf e) := by
  obtain ⟨qa, ea, h1, h2, h3⟩ := h
  exact .tup h1 (.cons (.str _) (.cons (.tup h2 (dp_ints _)) (.cons (.int _) (.cons (.tup h3 (.cons (.int _) (.cons (.int _) .nil))) .nil))))
/-- the entries of a book -/
def kvE (rs : List (Addr × Ef)) : List (NestedKey × V) := rs.map fun r => (kPa r.2.q, V.ref r.1)
structure BookAt (K : PySem.W.Frag) (w : World) (H : Hp) (Cb x d : Addr) (rs : List (Addr × Ef)) : Prop where
  at_ : ∃ dx, H x = some (.ins Cb dx [("_effects", .ref d)]) ∧ H dx = some (.own x) ∧ dx ≠ d
  nd : ND K w H d (kvE rs)
  ef : ∀ r ∈ rs, EfAt K H r.1 r.2
  ne : ∀ r ∈ rs, r.2.q ≠ []
theorem kPa_inj {p q : List Int} (h : kPa p = kPa q) : p = q := by
  have num : ∀ p q : List Int, p.map NestedKey.num = q.map NestedKey.num → p = q := fun p => by
    induction p with
    | nil => intro q e; cases q with
      | nil => rfl
      | cons => cases e
    | cons i r ih => intro q e; cases q with
      | nil => cases e
      | cons j t =>
        rw [List.map_cons, List.map_cons] at e
        obtain ⟨e1, e2⟩ := List.cons.inj e
        rw [NestedKey.num.inj e1, ih t e2]
  unfold kPa at h
  exact num p q (NestedKey.tup.inj h)
theorem kPa_depth (q : List Int) : (kPa q).depth ≤ 8 := by
  unfold kPa
  have : ∀ q : List Int, NestedKey.depthAll (q.map .num) = 0 := fun q => by
    induction q with
    | nil => rfl
    | cons i r ih => rw [List.map_cons, NestedKey.depthAll, ih]; rfl
  rw [NestedKey.depth, this]
  decide
def findE (rs : List (Addr × Ef)) (q : List Int) : Option (Addr × Ef) := rs.find? fun r => decide (r.2.q = q)
theorem valV_kvE (rs : List (Addr × Ef)) (q : List Int) : valV (kvE rs) (kPa q) = (findE rs q).map fun r => V.ref r.1 := by
  induction rs with
  | nil => rfl
  | cons r rs ih =>
    unfold findE
    rw [List.find?_cons]
    by_cases e : r.2.q = q
    · rw [show decide (r.2.q = q) = true from decide_eq_true e]
      exact valV_pos (by show kPa r.2.q = kPa q; rw [e])
    · rw [show decide (r.2.q = q) = false from decide_eq_false e]
      exact (valV_neg fun z => e (kPa_inj z)).trans ih
theorem eqv_ints : ∀ p q : List Int, PyData.eqvAll (p.map .int) (q.map .int) = decide (p = q)
  | [], [] => by simp [PyData.eqvAll]
  | [], _ :: _ => by simp [PyData.eqvAll]
  | _ :: _, [] => by simp [PyData.eqvAll]
  | i :: p, j :: q => by
    rw [List.map_cons, List.map_cons, PyData.eqvAll, eqv_ints p q]
    have e : (PyData.int i).eqv (.int j) = decide (i = j) := by
      simp only [PyData.eqv]
      by_cases h : i = j
      · rw [h, decide_eq_true rfl]; exact beq_self_eq_true j
      · rw [decide_eq_false h]; exact beq_eq_false_iff_ne.mpr h
    rw [e]
    simp
theorem eqv_path (p q : List Int) : PyData.eqv (dPa p) (dPa q) = decide (p = q) := by
  unfold dPa
  rw [PyData.eqv, eqv_ints]
theorem eqv_ef (a b : Ef) : PyData.eqv (dEf a) (dEf b) = true ↔ a = b := by
  obtain ⟨p, v, e1, e2⟩ := a
  obtain ⟨q, u, f1, f2⟩ := b
  unfold dEf
  simp [PyData.eqv, PyData.eqvAll, eqv_path]
theorem lay_ef (a : Ef) : (dEf a).canLay0 = true ∧ (dEf a).depth ≤ 2 := by
  have e : PyData.canLay0 (.str "effect") = true := by decide +kernel
  constructor
  · show (PyData.canLay0 (.str "effect") && (PyData.canLayAll0 (a.q.map PyData.int) && (true && ((true && (true && true)) && true)))) = true
    rw [e, PySem.W.ke_canLayAll0]
    rfl
  · unfold dEf dPa
    simp [PyData.depth, PyData.depthAll, PySem.W.depth_ints]
theorem shaped_ef (a : Ef) : SeqAt.shaped (dEf a) = true := by
  obtain ⟨h1, h2⟩ := lay_ef a
  unfold SeqAt.shaped
  rw [h1, decide_eq_true (Nat.le_trans h2 (by decide))]
  rfl
theorem shaped_path (q : List Int) : SeqAt.shaped (dPa q) = true := by
  unfold SeqAt.shaped
  have h1 : (dPa q).canLay0 = true := by
    show PyData.canLayAll0 (q.map PyData.int) = true
    exact PySem.W.ke_canLayAll0 _
  rw [h1, decide_eq_true (Nat.le_trans (path_depth q) (by decide))]
  rfl
theorem putK_fresh {κ : Type} [DecidableEq κ] {kvs : List (κ × V)} {k : κ} {v : V} (h : valV kvs k = none) : putK kvs k v = kvs ++ [(k, v)] := by
  unfold putK
  rw [if_neg]
  intro z
  rw [valV_any, h] at z
  cases z
end LB

set_option maxRecDepth 100000
set_option maxHeartbeats 8000000
namespace LB
open PySem PySem.Spec PyProof.Rows L2
structure OwnE (K : PySem.W.Frag) (mg : Str → Option Value) (n : Str) (Cp : Addr) : Prop where
  g : mg n = some (.ref Cp)
  x : PySem.W.excIn K Cp [.type "ValueError", .type "Exception", .type "BaseException", .type "object"] "ValueError.__new__" = true
  k : PySem.W.keepIn K (.ref Cp) = true
  b : PySem.W.subIn K (.ref Cp) (.type "BaseException") = some true
  t : PySem.W.typeIn K (.ref Cp) = some (.type "type")
theorem tpK_same {K : PySem.W.Frag} {H H' : Hp} (e : Same H H') : TpK K H H' := fun a xs q => (Tp.same e).seq q
/-- all but what is at d, where no tuple stands -/
theorem tpK_but {K : PySem.W.Frag} {H H' : Hp} {d : Addr} {φ : Heap → Prop} (h : H d = some (.ext φ)) (e : ∀ b, b ≠ d → H' b = H b) : TpK K H H' := fun a xs q => by
  rcases q with (q | ⟨o, q⟩) | q
  · exact .inl (.inl (by rw [e a (fun z => by rw [z, h] at q; cases q)]; exact q))
  · exact .inl (.inr ⟨o, by rw [e a (fun z => by rw [z, h] at q; cases q)]; exact q⟩)
  · exact .inr q
def leQ : List Int → List Int → Bool := PySem.W.dataLe false dPa
def leE : Addr × Ef → Addr × Ef → Bool := fun a b => leQ a.2.q b.2.q
def sortE (rs : List (Addr × Ef)) : List (Addr × Ef) := rs.mergeSort leE
theorem findE_mem : ∀ {rs : List (Addr × Ef)} {r : Addr × Ef}, (rs.map fun r => r.2.q).Nodup → r ∈ rs → findE rs r.2.q = some r
  | x :: rs, r, nd, h => by
    rw [List.map_cons, List.nodup_cons] at nd
    unfold findE
    rw [List.find?_cons]
    rcases List.mem_cons.mp h with rfl | h
    · rw [decide_eq_true rfl]
    · have ne : x.2.q ≠ r.2.q := fun e => nd.1 (e ▸ List.mem_map.mpr ⟨r, h, rfl⟩)
      rw [decide_eq_false ne]
      exact findE_mem nd.2 h
theorem findE_some {rs : List (Addr × Ef)} {q : List Int} {r : Addr × Ef} (h : findE rs q = some r) : r ∈ rs ∧ r.2.q = q :=
  ⟨List.mem_of_find?_eq_some h, of_decide_eq_true (List.find?_some (p := fun r : Addr × Ef => decide (r.2.q = q)) h)⟩
theorem sort_paths {ts : List PT} {rs : List (Addr × Ef)} (e : ts.map (·.2) = rs.map fun r => r.2.q) : (ts.mergeSort leP).map (·.2) = (sortE rs).map fun r => r.2.q := by
  unfold sortE
  rw [List.map_mergeSort (r := leP) (s := leQ) (fun a _ b _ => rfl), List.map_mergeSort (r := leE) (s := leQ) (fun a _ b _ => rfl), e]
theorem pe_fldK {X : Cx} {K : PySem.W.Frag} {e : Expr} {ta : TE} {f : Str} {pos : Pos} (h : X.K = K) (he : PE X e ta) (hb : attributeBase e f X.env (eval e X.env) = eval e X.env) : PE X (.Attribute e f pos) (tFld K ta f) := by
  subst h
  exact pe_fld he hb
theorem pe_ndgetK {X : Cx} {K : PySem.W.Frag} {w : World} {o i : PySem.Expr} {td ty : TE} {pos : Pos} (h : X.K = K) (hw : X.w = w) (ho : PE X o td) (hi : PE X i ty) (hs : NoSl i) (hu : X.A.units + 64 < cLine) : PE X (.Subscript o i pos) (tNDget K w td ty) := by
  subst h
  subst hw
  exact pe_ndget hu ho hi hs
structure ClsB (K : PySem.W.Frag) (C : Addr) : Prop where
  cl : Cls K C
  ef : NoAttr K C "_effects"
section
variable {P : Program} {w : World} {K : PySem.W.Frag} {mg : Str → Option Value} {base : Heap} {Cb Cu : Addr}
def spBkInit (K : PySem.W.Frag) (w : World) (Cb : Addr) : Sp := fun vs H Q _ => ∃ (x dx : Addr), vs = [.ref x] ∧ H x = some (.ins Cb dx []) ∧ H dx = some (.own x) ∧ ∀ (d : Addr) (H' : Hp), H d = none → (∀ a o, a ≠ x → H a = some o → H' a = some o) → BookAt K w H' Cb x d [] → Q .non H'
theorem scBi : FnScope ["self"] ["self"] (defScope bkInit) := ⟨rfl, rfl, rfl, by decide +kernel, rfl, by decide +kernel, by decide +kernel⟩
theorem ok_bkInit {f : Addr} {fd : FuncData} (F : Fun K "__init__" "Book.__init__" bkInit f fd) (G : ClsB K Cb) : FnOk P w K mg base CX0 1 f fd ["self"] (spBkInit K w Cb) := by
  refine F.ok scBi (fun vs H Q E h => ?_) (fun cdv A outer s H vs Q E hr h => ?_)
  · obtain ⟨x, dx, rfl, _⟩ := h
    rfl
  · obtain ⟨x, dx, rfl, hx, hdx, q⟩ := h
    have cl := G.cl
    refine ⟨_, (pss_one (ps_fld (pv 0) pe_ndnew rfl)), ?_⟩
    refine fun d nd hnd => ⟨_, rfl, x, Cb, _, _, rfl, (same_new nd) _ _ hx, cl, G.ef, (by show 0 < _; decide), ?_⟩
    have xd : x ≠ d := fun z => by rw [z, nd] at hx; cases hx
    have dd : dx ≠ d := fun z => by rw [z, nd] at hdx; cases hdx
    have dxx : dx ≠ x := fun z => by rw [z, hx] at hdx; cases hdx
    have keep : ∀ a o, a ≠ x → H a = some o → (upd (upd H d (NDo w d [])) x (.ins Cb dx [("_effects", .ref d)])) a = some o := fun a o na z => by
      rw [upd_ne na]
      exact same_new nd _ _ z
    have tp : TpK K (upd H d (NDo w d [])) (upd (upd H d (NDo w d [])) x (.ins Cb dx [("_effects", .ref d)])) := fun a xs z => by
      have hx' := (same_new (o := NDo w d []) nd) _ _ hx
      rcases z with (z | ⟨o, z⟩) | z
      · exact .inl (.inl (by rw [upd_ne (ne_of z hx' (by intro y; cases y))]; exact z))
      · exact .inl (.inr ⟨o, by rw [upd_ne (ne_of z hx' (by intro y; cases y))]; exact z⟩)
      · exact .inr z
    refine q d _ nd keep ⟨⟨dx, upd_same, keep _ _ dxx hdx, dd⟩, hnd.tp tp ((upd_ne (fun z => xd z.symm)).symm), fun r h => (nomatch h), fun r h => (nomatch h)⟩
def spBkTake (K : PySem.W.Frag) (w : World) (Cb Cu : Addr) : Sp := fun vs H Q E => ∃ (x d a : Addr) (rs : List (Addr × Ef)) (e : Ef), vs = [.ref x, .ref a] ∧ BookAt K w H Cb x d rs ∧ EfAt K H a e ∧ e.q ≠ [] ∧ rs.length < 3000 ∧
  (findE rs e.q = none → ∀ H', (∀ b, b ≠ d → H' b = H b) → BookAt K w H' Cb x d (rs ++ [(a, e)]) → Q (.bl true) H') ∧
  (∀ r, findE rs e.q = some r → r.2 = e → Q (.bl false) H) ∧ (∀ r, findE rs e.q = some r → r.2 ≠ e → E (.ref Cu) none H)
theorem scBt : FnScope ["self", "effect", "path"] ["self", "effect"] (defScope bkTake) := ⟨rfl, rfl, rfl, by decide +kernel, rfl, by decide +kernel, by decide +kernel⟩
theorem ok_bkTake {f : Addr} {fd : FuncData} (F : Fun K "take" "Book.take" bkTake f fd) (G : ClsB K Cb) (N : OwnE K mg "UnlikeEffects" Cu) : FnOk P w K mg base (L2.CX P w) 2 f fd ["self", "effect"] (spBkTake K w Cb Cu) := by
  refine F.okX scBt (fun vs H Q E h => ?_) (fun cdv A outer s H vs Q E hr h => ?_)
  · obtain ⟨x, d, a, rs, e, rfl, _⟩ := h
    rfl
  · obtain ⟨x, d, a, rs, e, rfl, bk, he, ne, few, q1, q2, q3⟩ := h
    have cl := G.cl
    have nd := scBt.nd
    refine ⟨_, (pss_cons (ps_set (i := 2) nd rfl (Or.inl rfl) (pe_ix ix_tup (pv 1) pe_int (fun _ _ => rfl)))
        (pss_cons (ps_if (pt_cmpR (op_ndnotin hr.units) (pv 2) (pe_fld (pv 0) rfl) rfl) (pss_cons (ps_asg (pv 1) (pg_sub (pe_fld (pv 0) rfl) (pv 2) (set_nd hr.units)))
        (pss_one (ps_ret pe_bl))) pss_nil)
        (pss_cons (ps_if (pt_cmpR (op_neD hr.units) (pe_ndget hr.units (pe_fld (pv 0) rfl) (pv 2) (fun _ _ => rfl)) (pv 1) (nomark _)) (pss_one (ps_raise (W := fun cls d _ H' => E cls d H') rfl (takes_of rfl rfl rfl rfl) (pmk_own PySem.F.excBase_ValueError N.x N.g N.k (raises_own N.b N.t) rfl))) pss_nil)
        (pss_one (ps_ret pe_bl))))), ?_⟩
    obtain ⟨qa, ea, h1, h2, h3⟩ := id he
    obtain ⟨dx, hx, hdx, dxd⟩ := bk.at_
    have key : IsKy K H (.ref qa) (kPa e.q) := ⟨qa, rfl, ky_of h2, kPa_depth _⟩
    refine ⟨_, rfl, _, _, 1, _, rfl, rfl, h1, rfl, ?_⟩
    refine ⟨_, rfl, _, rfl, x, Cb, _, _, _, rfl, hx, cl, G.ef, rfl, d, _, _, rfl, bk.nd, key, ?_⟩
    rw [valV_kvE]
    cases ef : findE rs e.q with
    | none =>
      refine ⟨_, rfl, iteT ⟨_, rfl, _, rfl, x, Cb, _, _, _, rfl, hx, cl, G.ef, rfl, _, rfl, d, _, _, rfl, bk.nd, key, ?_, fun H' keep hnd => ?_⟩⟩
      · unfold kvE
        rw [List.length_map]
        exact small_line (by omega)
      rw [putK_fresh (by rw [valV_kvE, ef]; rfl)] at hnd
      obtain ⟨xs, hd, _⟩ := id bk.nd
      have tp : TpK K H H' := tpK_but (show H d = some (.ext _) from hd) keep
      have dn : ∀ b o, b ≠ d → H b = some o → H' b = some o := fun b o n z => by rw [keep b n]; exact z
      have xd : x ≠ d := fun z => by rw [z, hd] at hx; cases hx
      refine q1 ef H' keep ⟨⟨dx, dn _ _ xd hx, dn _ _ dxd hdx, dxd⟩, ?_, fun r hr' => ?_, fun r hr' => ?_⟩
      · show ND K w H' d ((rs ++ [(a, e)]).map _)
        rw [List.map_append]
        exact hnd
      · rcases List.mem_append.mp hr' with z | z
        · exact (bk.ef r z).tp tp
        · rw [List.mem_singleton.mp z]
          exact he.tp tp
      · rcases List.mem_append.mp hr' with z | z
        · exact bk.ne r z
        · rw [List.mem_singleton.mp z]
          exact ne
    | some r =>
      have fs := findE_some ef
      refine ⟨_, rfl, iteF ⟨_, rfl, x, Cb, _, _, _, rfl, hx, cl, G.ef, rfl, _, rfl, d, _, _, _, rfl, bk.nd, key, by rw [valV_kvE, ef]; rfl, _, rfl, _, _, (bk.ef r fs.1).dp, he.dp, shaped_ef _, shaped_ef _, ?_⟩⟩
      by_cases c : r.2 = e
      · rw [(eqv_ef _ _).mpr c]
        exact ⟨_, rfl, iteF (q2 r ef c)⟩
      · have c' : PyData.eqv (dEf r.2) (dEf e) = false := Bool.eq_false_iff.mpr fun z => c ((eqv_ef _ _).mp z)
        rw [c']
        exact ⟨_, rfl, iteT (q3 r ef c)⟩
def spBkEffects (K : PySem.W.Frag) (w : World) (Cb : Addr) : Sp := fun vs H Q _ => ∃ (x d : Addr) (rs : List (Addr × Ef)), vs = [.ref x] ∧ BookAt K w H Cb x d rs ∧ (rs.map fun r => r.2.q).Nodup ∧ rs.length < 3000 ∧
  ∀ (L : Addr) (H' : Hp), Same H H' → H L = none → H' L = some (.lst ((sortE rs).map fun r => V.ref r.1)) → Q (.ref L) H'
theorem scBe : FnScope ["self", "path"] ["self"] (defScope bkEffects) := ⟨rfl, rfl, rfl, by decide +kernel, rfl, by decide +kernel, by decide +kernel⟩
theorem ok_bkEffects {f : Addr} {fd : FuncData} (F : Fun K "effects" "Book.effects" bkEffects f fd) (G : ClsB K Cb) (ms : mg "sorted" = none) : FnOk P w K mg base CX0 2 f fd ["self"] (spBkEffects K w Cb) := by
  refine F.ok scBe (fun vs H Q E h => ?_) (fun cdv A outer s H vs Q E hr h => ?_)
  · obtain ⟨x, d, rs, rfl, _⟩ := h
    rfl
  · obtain ⟨x, d, rs, rfl, bk, nod, few, q⟩ := h
    have cl := G.cl
    have nd := scBe.nd
    refine ⟨_, (pss_one (ps_ret (pe_lc (own := [("path", 1)]) (g := (gName 1)) rfl nd (pi_list (pe_callB (call_sortedND hr.units rfl) (by rfl) ms (by decide +kernel) (pa_cons (pe_fld (pv 0) rfl) pa_nil))) (blkOk_by (N := ["self", "path"]) (sc := (defScope bkEffects)) (by decide +kernel)) (fun _ _ _ _ _ => (pg_name (i := 1) nd rfl (Or.inl rfl))) (fun _ _ _ _ _ => pts_nil) (fun _ _ _ _ _ => (pe_ndgetK (K := K) (w := w) rfl rfl (pe_fldK (K := K) rfl (pv 0) rfl) (pv 1) (fun _ _ => rfl) (by exact hr.units)))))), ?_⟩
    obtain ⟨dx, hx, hdx, dxd⟩ := bk.at_
    have ek : (kvE rs).map (·.1) = (rs.map fun r => r.2.q).map kPa := by
      unfold kvE
      rw [List.map_map, List.map_map]
      rfl
    refine ⟨_, rfl, x, Cb, _, _, _, rfl, hx, cl, G.ef, rfl, d, _, _, rfl, bk.nd, ek, fun z hz => ?_, fun p ts t1 t2 np => ?_⟩
    · obtain ⟨r, hr', rfl⟩ := List.mem_map.mp hz
      exact bk.ne r hr'
    have sp := sort_paths t1
    generalize eT : ts.mergeSort leP = T at sp
    have tk : ∀ t ∈ T, KyAt K H t.1 (kPa t.2) := fun t ht => t2 t (List.mem_mergeSort.mp (eT ▸ ht))
    have tl : T.length = (sortE rs).length := by
      have := congrArg List.length sp
      rwa [List.length_map, List.length_map] at this
    have np' : p ≠ d := fun z => by
      obtain ⟨xs, hd, _⟩ := bk.nd
      rw [z, hd] at np
      cases np
    have S0 := same_new (o := .lst (T.map (·.1))) np
    have hp : upd H p (.lst (T.map (·.1))) p = some (.lst (T.map (·.1))) := upd_same
    generalize upd H p (.lst (T.map (·.1))) = H1 at S0 hp
    refine ⟨p, rfl, ⟨_, SqL.of hp⟩, fun D nD => ?_⟩
    refine lc_list (K := K) (xs := T.map (·.1)) (fun j H' => Same H1 H' ∧ H' D = some (.lst (((sortE rs).take j).map fun r => V.ref r.1))) ⟨same_new nD, upd_same⟩ (fun j H' _ h => SqL.of (h.1 _ _ hp)) ?_ ?_
    · rintro j x' H2 hx' ⟨S, hD⟩
      rw [List.getElem?_map] at hx'
      obtain ⟨t, ht, rfl⟩ := Option.map_eq_some_iff.mp hx'
      have hj : j < T.length := (List.getElem?_eq_some_iff.mp ht).1
      have hj2 : j < (sortE rs).length := by omega
      have er : (sortE rs)[j]? = some (sortE rs)[j] := List.getElem?_eq_getElem hj2
      have eq : t.2 = ((sortE rs)[j]).2.q := by
        have := congrArg (fun l => l[j]?) sp
        simp only [List.getElem?_map, ht, er, Option.map_some] at this
        exact Option.some.inj this
      have mem : (sortE rs)[j] ∈ rs := List.mem_mergeSort.mp (List.getElem_mem hj2)
      have S2 : Same H H2 := S0.trans S
      obtain ⟨xs, hd, rest⟩ := id bk.nd
      have nd2 : ND K w H2 d (kvE rs) := bk.nd.tp (tpK_same S2) (by rw [hd, S2 _ _ hd])
      have ky := (tk t (List.mem_of_getElem? ht)).tp (tpK_same S2)
      obtain ⟨ta, e1, _⟩ := ky_path ky
      refine ⟨rfl, _, rfl, x, Cb, _, _, _, rfl, S2 _ _ hx, cl, G.ef, rfl, _, rfl, d, _, _, _, rfl, nd2, ⟨ta, e1, ky, kPa_depth _⟩, by rw [valV_kvE, eq, findE_mem nod mem]; rfl, _, hD, ?_, same_upd S nD, ?_⟩
      · rw [List.length_map]
        have : (sortE rs).length = rs.length := List.length_mergeSort _
        exact small_line (by rw [List.length_take]; omega)
      · exact upd_same.trans (by rw [takeS er, List.map_append]; rfl)
    · rintro H2 ⟨S, hD⟩
      rw [List.length_map, tl, List.take_length] at hD
      have nDH : H D = none := by
        cases e : H D with
        | none => rfl
        | some o => rw [S0 _ _ e] at nD; cases nD
      exact q D H2 (S0.trans S) nDH hD
end
end LB

set_option maxRecDepth 100000
set_option maxHeartbeats 8000000
namespace LB
open PySem PySem.Spec PyProof.Rows L2
theorem call_isE' {X : Cx} {a D : Addr} {cls : Value} {d : Option Addr} {oe : Obj} {pn : List (Addr × Obj)} (N : ExcC X.K D) (hz : Zc cls d oe) (hf : ∃ vs, oe.data = .fields vs) : CallR (X.suite a ((a, oe) :: pn)) (.builtin "isinstance") (fun xs H Q => cls = .ref D ∧ d = none ∧ rIsE X.K D a xs H Q) := by
  rintro pins s σ H xs us Q I r ⟨e1, e2, h⟩
  subst e1
  subst e2
  exact call_isE N hz hf pins s σ H xs us Q I r h
section
variable {P : Program} {w : World} {K : PySem.W.Frag} {mg : Str → Option Value} {base : Heap} {Cb Cu Cn B0 : Addr}
structure ErrU (K : PySem.W.Frag) (mg : Str → Option Value) (Cu Cn B0 : Addr) : Prop where
  gU : mg "UnlikeEffects" = some (.ref Cu)
  gN : mg "UnlikeNews" = some (.ref Cn)
  gB : mg "ForetoldError" = some (.ref B0)
  N : ExcC K Cu
  eUB : PySem.W.exmOne K (.ref Cu) (.ref B0) = some true
  kU : PySem.W.kitOne K (.ref Cu) (.ref Cu) = some true
  kN : PySem.W.kitOne K (.ref Cu) (.ref Cn) = some false
  isi : mg "isinstance" = none
def spTakeL (K : PySem.W.Frag) (w : World) (Cb Cu : Addr) : Sp := fun vs H Q _ => spBkTake K w Cb Cu vs H Q (fun cls d H' => cls = .ref Cu ∧ d = none ∧ ∀ t, H' t = none → Q (.ref t) (upd H' t (.tup [.str "refused", .int 1])))
theorem bkTake_mono {vs : List V} {H : Hp} {Q Q' : VK} {E E' : XK} (hq : ∀ v H', Q v H' → Q' v H') (he : ∀ cls d H', E cls d H' → E' cls d H') (h : spBkTake K w Cb Cu vs H Q E) : spBkTake K w Cb Cu vs H Q' E' := by
  obtain ⟨x, d, a, rs, e, rfl, bk, he2, ne, few, q1, q2, q3⟩ := h
  exact ⟨x, d, a, rs, e, rfl, bk, he2, ne, few, fun f H' k b => hq _ _ (q1 f H' k b), fun r f c => hq _ _ (q2 r f c), fun r f c => he _ _ _ (q3 r f c)⟩
theorem scTk : FnScope ["book", "effect", "e"] ["book", "effect"] (defScope sTake) := ⟨rfl, rfl, rfl, by decide +kernel, rfl, by decide +kernel, by decide +kernel⟩
theorem ok_takeL {f fT : Addr} {fd fdT : FuncData} (F : Fun K "_law_take" "_law_take" sTake f fd) (G : ClsB K Cb) (N : ErrU K mg Cu Cn B0)
    (GT : FnOk P w K mg base (L2.CX P w) 2 fT fdT ["self", "effect"] (spBkTake K w Cb Cu)) (hT : Meth K Cb "take" fT) (bT : Binds K fdT ["self", "effect"] []) :
    FnOk P w K mg base CX0 3 f fd ["book", "effect"] (spTakeL K w Cb Cu) := by
  have gU := N.gU
  have gN := N.gN
  refine F.ok scTk (fun vs H Q E h => ?_) (fun cdv A outer s H vs Q E hr h => ?_)
  · obtain ⟨x, d, a, rs, e, rfl, _⟩ := h
    rfl
  · obtain ⟨x, d, a, rs, e, rfl, bk, _⟩ := id (show spBkTake K w Cb Cu vs H Q _ from h)
    obtain ⟨dx, hx, _⟩ := bk.at_
    have nd := scTk.nd
    have cl := G.cl
    refine ⟨_, pss_one (ps_try_any (Wout := fun _ _ _ _ => False) rfl rfl nd takes0
        (fun W pn xe tk _ => pss_one (ps_ret (pe_methT (E := WE W) (pv 0) cl hT GT (hr.mono (by decide)) bT (fun σ => passAt tk σ) (pa_cons (pv 1) pa_nil))))
        (.named (i := 2) rfl rfl ⟨rfl, by decide, Or.inl N.gB⟩ (fun a oe cls d pn hz hf => pss_cons (ps_if (PW.pt (pw_and (pt_val (pe_callB (call_isE' N.N hz hf) (by rfl) N.isi PyProof.Rows.boot_isinstance (pa_cons (pv 2) (pa_cons (pe_glob (v := .ref Cu) rfl gU rfl) pa_nil))))
              (pw_and1 (pt_not (pt_val (pe_callB (call_isE' N.N hz hf) (by rfl) N.isi PyProof.Rows.boot_isinstance (pa_cons (pv 2) (pa_cons (pe_glob (v := .ref Cn) rfl gN rfl) pa_nil))))))))
            (pss_one (ps_ret (pe_tup (pa_cons pe_str (pa_cons pe_int pa_nil))))) pss_nil) (pss_one (ps_ret (pe_tup (pa_cons pe_str (pa_cons pe_int pa_nil)))))) .nil)), ?_⟩
    refine ⟨_, rfl, x, _, _, rfl, hx, rfl, _, rfl, bkTake_mono (fun _ _ q => q) (fun cls d H' z => ?_) h⟩
    obtain ⟨e1, e2, q⟩ := z
    subst e1
    subst e2
    refine ⟨true, N.eUB, fun _ a _ => ?_, fun y => Bool.noConfusion y⟩
    refine ⟨_, rfl, rfl, rfl, _, .ref Cu, true, rfl, fun u r => r, N.kU, _, rfl, ?_⟩
    exact iteT ⟨_, rfl, rfl, rfl, _, .ref Cn, false, rfl, fun u r => r, N.kN, _, rfl, iteT ⟨(by show 2 ≤ sizeLine; decide), fun t nt => q t nt⟩⟩
def spPath (K : PySem.W.Frag) : Sp := fun vs H Q _ => ∃ (a : Addr) (xs : List V) (v : V), vs = [.ref a] ∧ SqT K H a xs ∧ xs[1]? = some v ∧ Q v H
theorem scPh : FnScope ["effect"] ["effect"] (defScope sPath) := ⟨rfl, rfl, rfl, by decide +kernel, rfl, by decide +kernel, by decide +kernel⟩
theorem ok_path {f : Addr} {fd : FuncData} (F : Fun K "_law_path" "_law_path" sPath f fd) : FnOk P w K mg base CX0 1 f fd ["effect"] (spPath K) := by
  refine F.ok scPh (fun vs H Q E h => ?_) (fun cdv A outer s H vs Q E hr h => ?_)
  · obtain ⟨a, xs, v, rfl, _⟩ := h
    rfl
  · obtain ⟨a, xs, v, rfl, hs, e, q⟩ := h
    refine ⟨_, (pss_one (ps_ret (pe_ix ix_tup (pv 0) pe_int (fun _ _ => rfl)))), ?_⟩
    exact ⟨_, rfl, a, _, 1, v, rfl, rfl, hs, atI_nat e, q⟩
end
end LB

set_option maxRecDepth 100000
set_option maxHeartbeats 8000000
namespace LB
open PySem PySem.Spec PyProof.Rows L2
def rSumT (K : PySem.W.Frag) : List V → Hp → VK → Prop := fun vs H Q => ∃ (a : Addr) (ns : List Int), vs = [V.ref a] ∧ SqT K H a (ns.map V.int) ∧ Q (.int ns.sum) H
theorem call_sumT {X : Cx} (hc : X.calm = true) : CallR X (.builtin "sum") (rSumT X.K) := by
  intro pins s σ H vs us Q I r h
  obtain ⟨a, ns, rfl, hs, q⟩ := h
  obtain ⟨its, rv, hl, _⟩ := I.tuple hs
  rw [Vals.ref1 r]
  have hi := rv.ints
  obtain ⟨xs, e⟩ := hi.allInts.items
  have hn : numsOf (intItems xs).toList = ns := by rw [← e]; exact hi.numsOf
  rw [nums_intItems] at hn
  rw [e] at hl
  obtain ⟨o, h1, h2, n, h3⟩ := hl
  refine PySem.W.ktm_sumG (I.ok.hd hc) ⟨o, h1, h2, n, h3⟩ fun h' tk t' hk => ?_
  rw [preSum_eq, List.take_of_length_le (by simp), hn]
  exact ⟨.int _, H, I.kept hk, ⟨_, rfl⟩, q⟩
theorem op_eqDK {X : Cx} {K : PySem.W.Frag} (h : X.K = K) (hu : X.A.units + 64 < cLine) : OpR X (compareOp .Eq) (rEqD K) := by
  subst h
  exact op_eqD hu
structure SmEf (e : Ef) : Prop where
  ne : e.q ≠ []
  ln : e.q.length ≤ 5
  q : ∀ i ∈ e.q, Sm i
  v : Sm e.v
  e1 : Sm e.e.1
  e2 : Sm e.e.2
theorem td_ef {e : Ef} (h : SmEf e) : Td (dEf e) 2 60 := by
  have a : Td (.str "effect") 1 6 := (Td.str (by decide +kernel)).up (by decide) (by decide +kernel)
  have b : Td (dPa e.q) 1 5 := (Td.tup (TdA.ints h.q)).up (by decide) h.ln
  have c : Td (.int e.v) 1 1 := (Td.int h.v).up (by decide) (by decide)
  have d : Td (.tuple [.int e.e.1, .int e.e.2]) 1 4 := (Td.tup (.cons (Td.int h.e1) (.cons (Td.int h.e2) .nil))).up (by decide) (by decide)
  exact (Td.tup (.cons a (.cons b (.cons c (.cons d .nil))))).up (by decide) (by decide)
theorem short_efs {rs : List (Addr × Ef)} (h : ∀ r ∈ rs, SmEf r.2) (l : rs.length ≤ 31) : Short (.list (rs.map fun r => dEf r.2)) := by
  refine (Td.lst (TdA.of (k := 2) (m := 60) fun d hd => ?_)).short (by decide) ?_
  · obtain ⟨r, hr, rfl⟩ := List.mem_map.mp hd
    exact td_ef (h r hr)
  · rw [List.length_map]
    omega
theorem short_due : Short (.bool true) ∧ Short (.bool false) ∧ Short (.tuple [.str "refused", .int 1]) :=
  ⟨Short.of (by decide +kernel) (by decide +kernel) (by decide +kernel) (by decide +kernel) (by decide +kernel), Short.of (by decide +kernel) (by decide +kernel) (by decide +kernel) (by decide +kernel) (by decide +kernel), Short.of (by decide +kernel) (by decide +kernel) (by decide +kernel) (by decide +kernel) (by decide +kernel)⟩
theorem dp_efs {K : PySem.W.Frag} {H : Hp} : ∀ {rs : List (Addr × Ef)}, (∀ r ∈ rs, EfAt K H r.1 r.2) → DpAll K H (rs.map fun r => V.ref r.1) (rs.map fun r => dEf r.2)
  | [], _ => .nil
  | r :: rs, h => .cons (h r (List.mem_cons_self ..)).dp (dp_efs fun x hx => h x (List.mem_cons_of_mem _ hx))
theorem lay_efs : ∀ rs : List (Addr × Ef), PyData.canLayAll0 (rs.map fun r => dEf r.2) = true ∧ PyData.depthAll (rs.map fun r => dEf r.2) ≤ 2
  | [] => ⟨rfl, Nat.zero_le _⟩
  | r :: rs => by
    obtain ⟨h1, h2⟩ := lay_ef r.2
    obtain ⟨h3, h4⟩ := lay_efs rs
    rw [List.map_cons]
    refine ⟨?_, ?_⟩
    · show (PyData.canLay0 (dEf r.2) && _) = true
      rw [h1, h3]
      rfl
    · show max (dEf r.2).depth _ ≤ 2
      omega
theorem shaped_efs (rs : List (Addr × Ef)) : SeqAt.shaped (.list (rs.map fun r => dEf r.2)) = true := by
  obtain ⟨h1, h2⟩ := lay_efs rs
  unfold SeqAt.shaped
  have h3 : PyData.canLay0 (.list (rs.map fun r => dEf r.2)) = true := h1
  have h4 : PyData.depth (.list (rs.map fun r => dEf r.2)) ≤ 64 := by
    show PyData.depthAll _ + 1 ≤ 64
    omega
  rw [h3, decide_eq_true h4]
  rfl
theorem eqv_nil (rs : List (Addr × Ef)) : PyData.eqv (.list (rs.map fun r => dEf r.2)) (.list []) = rs.isEmpty := by
  cases rs with
  | nil => simp [PyData.eqv, PyData.eqvAll]
  | cons r rs => simp [PyData.eqv, PyData.eqvAll]
/-- what the sorted known ones are -/
theorem keyed {K : PySem.W.Frag} {H : Hp} {rs : List (Addr × Ef)} (h : ∀ r ∈ rs, EfAt K H r.1 r.2) : ∃ ts : List KT, ts.map (·.1) = rs.map (fun r => V.ref r.1) ∧ (ts.mergeSort leK).map (·.1) = (sortE rs).map (fun r => V.ref r.1) ∧
    ∀ t ∈ ts, ∃ r ∈ rs, ∃ qa, t = (V.ref r.1, V.ref qa, dPa r.2.q) ∧ SqT K H qa (r.2.q.map V.int) ∧ ∃ ea, SqT K H r.1 [.str "effect", .ref qa, .int r.2.v, .ref ea] := by
  obtain ⟨us, e1, e2⟩ : ∃ us : List ((Addr × Ef) × Addr), us.map (·.1) = rs ∧ ∀ u ∈ us, SqT K H u.2 (u.1.2.q.map V.int) ∧ ∃ ea, SqT K H u.1.1 [.str "effect", .ref u.2, .int u.1.2.v, .ref ea] := by
    induction rs with
    | nil => exact ⟨[], rfl, fun u hu => (nomatch hu)⟩
    | cons r rs ih =>
      obtain ⟨us, e1, e2⟩ := ih fun x hx => h x (List.mem_cons_of_mem _ hx)
      obtain ⟨qa, ea, h1, h2, h3⟩ := h r (List.mem_cons_self ..)
      refine ⟨(r, qa) :: us, by rw [List.map_cons, e1], fun u hu => ?_⟩
      rcases List.mem_cons.mp hu with rfl | hu
      · exact ⟨h2, ea, h1⟩
      · exact e2 u hu
  refine ⟨us.map fun u => (V.ref u.1.1, V.ref u.2, dPa u.1.2.q), by rw [← e1, List.map_map, List.map_map]; rfl, ?_, fun t ht => ?_⟩
  · rw [← List.map_mergeSort (r := fun u v : (Addr × Ef) × Addr => leE u.1 v.1) (s := leK) (f := fun u : (Addr × Ef) × Addr => ((V.ref u.1.1, V.ref u.2, dPa u.1.2.q) : KT)) (fun a _ b _ => rfl), List.map_map]
    unfold sortE
    rw [← e1, ← List.map_mergeSort (r := fun u v : (Addr × Ef) × Addr => leE u.1 v.1) (s := leE) (f := fun u : (Addr × Ef) × Addr => u.1) (fun a _ b _ => rfl), List.map_map]
    rfl
  · obtain ⟨u, hu, rfl⟩ := List.mem_map.mp ht
    obtain ⟨h1, ea, h2⟩ := e2 u hu
    exact ⟨u.1, e1 ▸ List.mem_map.mpr ⟨u, hu, rfl⟩, u.2, rfl, h1, ea, h2⟩
/-- a book beside what is written elsewhere -/
theorem BookAt.mv {K : PySem.W.Frag} {w : World} {H H' : Hp} {Cb x d c : Addr} {rs : List (Addr × Ef)} {xs : List V} (h : BookAt K w H Cb x d rs) (hc : H c = some (.lst xs)) (k : ∀ a o, a ≠ c → H a = some o → H' a = some o) : BookAt K w H' Cb x d rs := by
  obtain ⟨dx, h1, h2, h3⟩ := h.at_
  obtain ⟨ys, hd, _⟩ := id h.nd
  have tp : TpK K H H' := fun a ys z => by
    rcases z with (z | ⟨o, z⟩) | z
    · exact .inl (.inl (k a _ (ne_of z hc (by intro y; cases y)) z))
    · exact .inl (.inr ⟨o, k a _ (ne_of z hc (by intro y; cases y)) z⟩)
    · exact .inr z
  exact ⟨⟨dx, k x _ (ne_of h1 hc (by intro y; cases y)) h1, k dx _ (ne_of h2 hc (by intro y; cases y)) h2, h3⟩, h.nd.tp tp (by rw [hd, k d _ (ne_of hd hc (by intro y; cases y)) hd]), fun r hr => (h.ef r hr).tp tp, h.ne⟩
theorem BookAt.same {K : PySem.W.Frag} {w : World} {H H' : Hp} {Cb x d : Addr} {rs : List (Addr × Ef)} (h : BookAt K w H Cb x d rs) (k : Same H H') : BookAt K w H' Cb x d rs := by
  obtain ⟨dx, h1, h2, h3⟩ := h.at_
  obtain ⟨ys, hd, _⟩ := id h.nd
  exact ⟨⟨dx, k _ _ h1, k _ _ h2, h3⟩, h.nd.tp (tpK_same k) (by rw [hd, k _ _ hd]), fun r hr => (h.ef r hr).tp (tpK_same k), h.ne⟩
theorem same_make {H H' : Hp} {x dx : Addr} {u : HO} (nx : H x = none) (nd : H dx = none) (ne : dx ≠ x) (e : ∀ b o, b ≠ x → (upd (upd H dx (.own x)) x u) b = some o → H' b = some o) : Same H H' := fun b o h => by
  have b1 : b ≠ x := fun z => by rw [z, nx] at h; cases h
  have b2 : b ≠ dx := fun z => by rw [z, nd] at h; cases h
  exact e b o b1 (by rw [upd_ne b1, upd_ne b2]; exact h)
theorem same_none {H H' : Hp} {p : Addr} (S : Same H H') (n : H' p = none) : H p = none := by
  cases e : H p with
  | none => rfl
  | some o => rw [S _ _ e] at n; cases n
/-- the law's own place -/
structure LwI (K : PySem.W.Frag) (w : World) (H0 H : Hp) (Cb b x d kl : Addr) (rs : List (Addr × Ef)) : Prop where
  B0 : Box H0 b
  bx : Box H b
  U : But b H0 H
  bk : BookAt K w H Cb x d rs
  kn : H kl = some (.lst (rs.map fun r => V.ref r.1))
  nod : (rs.map fun r => r.2.q).Nodup
  sm : ∀ r ∈ rs, SmEf r.2
  nk : H0 kl = none
  nd : H0 d = none
section
variable {K : PySem.W.Frag} {w : World} {H0 H H' : Hp} {Cb b x d kl : Addr} {rs : List (Addr × Ef)}
theorem LwI.same (h : LwI K w H0 H Cb b x d kl rs) (k : Same H H') : LwI K w H0 H' Cb b x d kl rs :=
  ⟨h.B0, h.bx.same k, h.U.trans (But.of k), h.bk.same k, k _ _ h.kn, h.nod, h.sm, h.nk, h.nd⟩
theorem LwI.but (h : LwI K w H0 H Cb b x d kl rs) (U : But b H H') (B : Box H' b) : LwI K w H0 H' Cb b x d kl rs := by
  obtain ⟨l, ds, n, hb, _⟩ := id h.bx
  exact ⟨h.B0, B, h.U.trans U, h.bk.mv hb U.k, U.k _ _ (h.B0.off h.nk) h.kn, h.nod, h.sm, h.nk, h.nd⟩
/-- one is known -/
theorem LwI.known (h : LwI K w H0 H Cb b x d kl rs) (a : Addr) : Box (upd H kl (.lst (rs.map (fun r => V.ref r.1) ++ [.ref a]))) b ∧ But b H0 (upd H kl (.lst (rs.map (fun r => V.ref r.1) ++ [.ref a]))) ∧ BookAt K w (upd H kl (.lst (rs.map (fun r => V.ref r.1) ++ [.ref a]))) Cb x d rs := by
  obtain ⟨B, U⟩ := Box.put (o := .lst (rs.map (fun r => V.ref r.1) ++ [.ref a])) h.B0 h.bx h.U h.nk
  exact ⟨B, U, h.bk.mv h.kn fun c o n z => by rw [upd_ne n]; exact z⟩
/-- one is taken -/
theorem LwI.taken {a : Addr} {e : Ef} (B0 : Box H0 b) (B : Box H b) (U : But b H0 H) (nod : (rs.map fun r => r.2.q).Nodup) (sm : ∀ r ∈ rs, SmEf r.2) (nk : H0 kl = none) (nd : H0 d = none) (hd : ∃ φ, H d = some (.ext φ))
    (kn : H kl = some (.lst (rs.map (fun r => V.ref r.1) ++ [.ref a]))) (fn : findE rs e.q = none) (se : SmEf e) (keep : ∀ c, c ≠ d → H' c = H c) (bk : BookAt K w H' Cb x d (rs ++ [(a, e)])) : LwI K w H0 H' Cb b x d kl (rs ++ [(a, e)]) := by
  obtain ⟨φ, hd⟩ := hd
  have bd : b ≠ d := by
    obtain ⟨l, ds, n, hb, _⟩ := B
    exact fun z => by rw [z, hd] at hb; cases hb
  have kd : kl ≠ d := fun z => by rw [z, hd] at kn; cases kn
  refine ⟨B0, ?_, ⟨fun c o nc z => ?_, fun l n h => ?_⟩, bk, ?_, ?_, fun r hr => ?_, nk, nd⟩
  · obtain ⟨l, ds, n, hb, hl, r⟩ := B
    have ld : l ≠ d := fun z => by rw [z, hd] at hl; cases hl
    exact ⟨l, ds, n, by rw [keep b bd]; exact hb, by rw [keep l ld]; exact hl, r⟩
  · rw [keep c (fun y => by rw [y, nd] at z; cases z)]
    exact U.k c o nc z
  · obtain ⟨n', h'⟩ := U.d l n h
    exact ⟨n', by rw [keep b bd]; exact h'⟩
  · rw [keep kl kd, kn, List.map_append]
    rfl
  · rw [List.map_append]
    refine List.nodup_append.mpr ⟨nod, (List.nodup_cons.mpr ⟨List.not_mem_nil, List.nodup_nil⟩), fun p hp p' hp' => ?_⟩
    rw [List.mem_singleton.mp hp']
    obtain ⟨r, hr, rfl⟩ := List.mem_map.mp hp
    intro z
    have := List.find?_eq_none.mp fn r hr
    exact this (decide_eq_true z)
  · rcases List.mem_append.mp hr with z | z
    · exact sm r z
    · rw [List.mem_singleton.mp z]
      exact se
theorem mem_sortE {r : Addr × Ef} (h : r ∈ sortE rs) : r ∈ rs := List.mem_mergeSort.mp h
theorem len_sortE : (sortE rs).length = rs.length := List.length_mergeSort _
end
end LB

set_option maxRecDepth 100000
set_option maxHeartbeats 8000000
namespace LB
open PySem PySem.Spec PyProof.Rows L2
def spLaw (K : PySem.W.Frag) : Sp := fun vs H Q _ => ∃ (a : Addr) (ns : List Int), vs = [.ref a] ∧ SqL K H a (ns.map V.int) ∧ ∀ H', Q (.bl true) H'
structure Defs (K : PySem.W.Frag) (mg : Str → Option Value) (base : Heap) (P : Program) (w : World) (Cb Cu : Addr) : Prop where
  D : ∃ f fd, FnOk P w K mg base CX0 1 f fd ["box", "many"] (spDraw K) ∧ mg "_law_draw" = some (.ref f) ∧ PySem.W.keepIn K (.ref f) = true ∧ Binds K fd ["box", "many"] []
  G : ∃ f fd, FnOk P w K mg base CX0 2 f fd ["script", "first", "last"] (spDigits K) ∧ mg "_law_digits" = some (.ref f) ∧ PySem.W.keepIn K (.ref f) = true ∧ Binds K fd ["script", "first", "last"] []
  A : ∃ f fd, FnG P w K mg base CX0 1 f fd ["one", "two"] (spAlike K) ∧ mg "_law_alike" = some (.ref f) ∧ PySem.W.keepIn K (.ref f) = true ∧ Binds K fd ["one", "two"] []
  T : ∃ f fd, FnOk P w K mg base CX0 3 f fd ["book", "effect"] (spTakeL K w Cb Cu) ∧ mg "_law_take" = some (.ref f) ∧ PySem.W.keepIn K (.ref f) = true ∧ Binds K fd ["book", "effect"] []
  P_ : ∃ f fd, FnOk P w K mg base CX0 1 f fd ["effect"] (spPath K) ∧ mg "_law_path" = some (.ref f) ∧ Binds K fd ["effect"] []
  cls : ClsB K Cb
  mB : mg "Book" = some (.ref Cb)
  I : ∃ f fd, FnOk P w K mg base CX0 1 f fd ["self"] (spBkInit K w Cb) ∧ Mk K Cb f ∧ Binds K fd ["self"] []
  E : ∃ f fd, FnOk P w K mg base CX0 2 f fd ["self"] (spBkEffects K w Cb) ∧ Meth K Cb "effects" f ∧ Binds K fd ["self"] []
  names : Names mg
  sorted : mg "sorted" = none
  sum : mg "sum" = none
section
variable {P : Program} {w : World} {K : PySem.W.Frag} {mg : Str → Option Value} {base : Heap} {Cb Cu : Addr}
theorem scLaw : FnScope ["script", "box", "book", "known", "turn", "path", "value", "ended", "effect", "elder", "due", "told", "one"] ["script"] (defScope sLaw) := ⟨rfl, rfl, rfl, by decide +kernel, rfl, by decide +kernel, by decide +kernel⟩
theorem ok_law {f : Addr} {fd : FuncData} (F : Fun K "law" "law" sLaw f fd) (T : Defs K mg base P w Cb Cu) : FnG P w K mg base CX0 6 f fd ["script"] (spLaw K) := by
  obtain ⟨_, _, GD, mD, kD, bD⟩ := T.D
  obtain ⟨_, _, GG, mG, kG, bG⟩ := T.G
  obtain ⟨_, _, GA, mA, kA, bA⟩ := T.A
  obtain ⟨_, _, GT, mT, kT, bT⟩ := T.T
  obtain ⟨fP, _, GP, mP, bP⟩ := T.P_
  obtain ⟨_, _, GI, MI, bI⟩ := T.I
  obtain ⟨_, _, GE, hE, bE⟩ := T.E
  have M := T.names
  have mSo := T.sorted
  have mSu := T.sum
  have mBk := T.mB
  refine FnG.of_fun F scLaw (fun vs H Q E h => ?_) (fun cdv A outer s H vs Q E gf hr h => ?_)
  · obtain ⟨a, ns, rfl, _⟩ := h
    rfl
  · obtain ⟨a, ns, rfl, hS, q⟩ := h
    have nd := scLaw.nd
    have cl := T.cls.cl
    refine ⟨_, (pss_cons (ps_set (i := 1) nd rfl (Or.inl rfl) (pe_lst (pa_cons (pe_call GG (hr.mono (by decide)) rfl mG kG bG .nil pass0 (pa_cons (pv 0) (pa_cons pe_int (pa_cons pe_int pa_nil)))) (pa_cons pe_int pa_nil))))
        (pss_cons (ps_set (i := 2) nd rfl (Or.inl rfl) (pe_make0 MI GI (hr.mono (by decide)) rfl mBk bI .nil pass0))
        (pss_cons (ps_set (i := 3) nd rfl (Or.inl rfl) (pe_lst pa_nil))
        (pss_cons (ps_for PassesOwn.never rfl (pi_range1 (by rfl) M.range (pa_cons (pe_call GD (hr.mono (by decide)) rfl mD kD bD .nil pass0 (pa_cons (pv 1) (pa_cons pe_int pa_nil))) pa_nil)) (pg_name (i := 4) nd rfl (Or.inl rfl)) (C8.pss_cut (ps_set (i := 5) nd rfl (Or.inr rfl) (pe_op op_catT (pe_tup (pa_cons (pe_call GD (hr.mono (by decide)) rfl mD kD bD .nil pass0 (pa_cons (pv 1) (pa_cons pe_int pa_nil))) pa_nil)) (pe_op op_repA (pe_tup (pa_cons (pe_call GD (hr.mono (by decide)) rfl mD kD bD .nil pass0 (pa_cons (pv 1) (pa_cons pe_int pa_nil))) (pa_cons (pe_call GD (hr.mono (by decide)) rfl mD kD bD .nil pass0 (pa_cons (pv 1) (pa_cons pe_int pa_nil))) pa_nil))) (pe_call GD (hr.mono (by decide)) rfl mD kD bD .nil pass0 (pa_cons (pv 1) (pa_cons pe_int pa_nil))))))
        (pss_cons (ps_set (i := 6) nd rfl (Or.inl rfl) (pe_op op_mod (pe_callTy call_int1 (by rfl) M.int (by decide +kernel) (pa_cons (pe_op op_mul (pe_callB (call_sumT rfl) (by rfl) mSu (by decide +kernel) (pa_cons (pv 5) pa_nil)) pe_int) pa_nil)) pe_int))
        (pss_cons (ps_set (i := 7) nd rfl (Or.inl rfl) (pe_tup (pa_cons (pe_op op_add (pe_ix ix_tup (pv 5) pe_int (fun _ _ => rfl)) (pe_callB call_len_seq (by rfl) M.len PySem.boot_len (pa_cons (pv 5) pa_nil))) (pa_cons pe_int pa_nil))))
        (C8.pss_cut (ps_if (pt_cmpR op_eq (pe_call GD (hr.mono (by decide)) rfl mD kD bD .nil pass0 (pa_cons (pv 1) (pa_cons pe_int pa_nil))) pe_int (nomark _)) (pss_one (ps_set (i := 6) nd rfl (Or.inl rfl) (pe_call GD (hr.mono (by decide)) rfl mD kD bD .nil pass0 (pa_cons (pv 1) (pa_cons pe_int pa_nil))))) pss_nil)
        (C8.pss_cut (ps_if (pt_cmpR op_eq (pe_call GD (hr.mono (by decide)) rfl mD kD bD .nil pass0 (pa_cons (pv 1) (pa_cons pe_int pa_nil))) pe_int (nomark _)) (pss_one (ps_set (i := 7) nd rfl (Or.inl rfl) (pe_tup (pa_cons (pe_ix ix_tup (pv 7) pe_int (fun _ _ => rfl)) (pa_cons (pe_call GD (hr.mono (by decide)) rfl mD kD bD .nil pass0 (pa_cons (pv 1) (pa_cons pe_int pa_nil))) pa_nil))))) pss_nil)
        (pss_cons (ps_set (i := 8) nd rfl (Or.inl rfl) (pe_tup (pa_cons pe_str (pa_cons (pv 5) (pa_cons (pv 6) (pa_cons (pv 7) pa_nil))))))
        (pss_cons (ps_setLc (i := 9) (own := [("one", 12)]) (g := (gName 12)) rfl nd rfl rfl (sw_true rfl rfl rfl (by decide +kernel)) (pi_list (pv 3)) (blkOk_by (N := ["script", "box", "book", "known", "turn", "path", "value", "ended", "effect", "elder", "due", "told", "one"]) (sc := (defScope sLaw)) (by decide +kernel)) (fun _ _ _ _ _ => (pg_name (i := 12) nd rfl (Or.inl rfl))) (fun _ _ _ _ _ => (pts_one (pt_cmpR (op_eqDK (K := K) rfl (by exact hr.units)) (pe_ix (ix_tupK (K := K) rfl) (pv 12) pe_int (fun _ _ => rfl)) (pv 5) (nomark _)))) (fun _ _ _ _ _ => (pv 12)))
        (pss_cons (ps_set (i := 10) nd rfl (Or.inl rfl) pe_bl)
        (C8.pss_cut (ps_if (PW.pt (pw_and (pt_cmpR (op_neD hr.units) (pv 9) (pe_lst pa_nil) (nomark _)) (pw_and1 (pt_cmpR (op_eqD hr.units) (pe_ix ix_list (pv 9) pe_int (fun _ _ => rfl)) (pv 8) (nomark _))))) (pss_one (ps_set (i := 10) nd rfl (Or.inl rfl) pe_bl)) (pss_one (ps_if (pt_cmpR (op_neD hr.units) (pv 9) (pe_lst pa_nil) (nomark _)) (pss_one (ps_set (i := 10) nd rfl (Or.inl rfl) (pe_tup (pa_cons pe_str (pa_cons pe_int pa_nil))))) (pss_one (ps_expr (pe_bm PySem.F.plainAttrs_list PySem.F.slot_list_append PySem.F.type_list_append mt_append (pv 3) (pa_cons (pv 8) pa_nil)))))))
        (C8.pss_cut (ps_if (pt_not (pt_val (pe_callF gf GA (hr.mono (by decide)) rfl mA kA bA .nil pass0 (pa_cons (pe_call GT (hr.mono (by decide)) rfl mT kT bT .nil pass0 (pa_cons (pv 2) (pa_cons (pv 8) pa_nil))) (pa_cons (pv 10) pa_nil))))) (pss_one (ps_ret pe_bl)) pss_nil)
        (pss_cons (ps_set (i := 11) nd rfl (Or.inl rfl) (pe_meth0 (pv 2) cl hE GE (hr.mono (by decide)) bE .nil pass0))
        (pss_cons (ps_if (pt_not (pt_val (pe_callF gf GA (hr.mono (by decide)) rfl mA kA bA .nil pass0 (pa_cons (pv 11) (pa_cons (pe_callBK (cr_sortK GP (hr.mono (by decide)) bP) (by rfl) mSo (by decide +kernel) (pa_cons (pv 3) pa_nil) (pk_cons (pe_glob (v := .ref fP) rfl mP rfl) pk_nil)) pa_nil))))) (pss_one (ps_ret pe_bl)) pss_nil)
        (pss_one (ps_expr (pe_bm PySem.F.plainAttrs_list PySem.F.slot_list_append PySem.F.type_list_append mt_append (pv 11) (pa_cons pe_str pa_nil)))))))))))))))))
        (pss_one (ps_ret (pe_and (pe_callF gf GA (hr.mono (by decide)) rfl mA kA bA .nil pass0 (pa_cons (pe_meth0 (pv 2) cl hE GE (hr.mono (by decide)) bE .nil pass0) (pa_cons (pe_callBK (cr_sortK GP (hr.mono (by decide)) bP) (by rfl) mSo (by decide +kernel) (pa_cons (pv 3) pa_nil) (pk_cons (pe_glob (v := .ref fP) rfl mP rfl) pk_nil)) pa_nil))) (pe_one (pe_cmpR (op_eqD hr.units) (pe_meth0 (pe_make0 MI GI (hr.mono (by decide)) rfl mBk bI .nil pass0) cl hE GE (hr.mono (by decide)) bE .nil pass0) (pe_lst pa_nil) (nomark _)))))))))), ?_⟩
    refine ⟨_, rfl, a, ns, 0, 63, rfl, hS, by decide, by decide, by decide, fun ds H1 l s1 nl hl hd hlen => ⟨(by show 2 ≤ sizeLine; decide), fun b nb => ?_⟩⟩
    have B0 : Box (upd H1 b (.lst [.ref l, .int 0])) b := ⟨l, ds, 0, upd_same, by rw [upd_ne (ne_of_none hl nb)]; exact hl, (ne_of_none hl nb).symm, by decide, hlen⟩
    generalize upd H1 b (.lst [.ref l, .int 0]) = H0 at B0
    clear hS hl hd hlen nl nb s1
    refine fun x dx nx ndx ne => ⟨x, dx, rfl, upd_same, (upd_ne ne).trans upd_same, fun d H2 nd2 keep bk => ⟨rfl, (by show 0 ≤ sizeLine; decide), fun kl nkl => ?_⟩⟩
    have S2 : Same H0 H2 := same_make nx ndx ne keep
    have nd0 : H0 d = none := same_none (same_make (u := .ins Cb dx []) nx ndx ne fun _ _ _ e => e) nd2
    have li : LwI K w H0 (upd H2 kl (.lst [])) Cb b x d kl [] := ⟨B0, B0.same (S2.trans (same_new nkl)), But.of (S2.trans (same_new nkl)), bk.same (same_new nkl), upd_same, List.nodup_nil, fun r h => (nomatch h), same_none S2 nkl, nd0⟩
    generalize upd H2 kl (.lst []) = H3 at li
    clear keep bk nkl S2 nd2 nx ndx ne dx
    refine ⟨_, rfl, b, 31, rfl, li.bx, by decide, fun many H4 m0 m1 B4 U4 => ?_⟩
    have li := li.but U4 B4
    refine ⟨many, rfl, by omega, by omega, for_range (n := many.toNat) (fun j σ H' => ∃ (rs : List (Addr × Ef)) (v4 v5 v6 v7 v8 v9 v10 v11 : Option V), σ = [some (.ref a), some (.ref b), some (.ref x), some (.ref kl), v4, v5, v6, v7, v8, v9, v10, v11, none] ∧ LwI K w H0 H' Cb b x d kl rs ∧ rs.length ≤ j) ⟨[], _, _, _, _, _, _, _, _, rfl, li, Nat.le_refl _⟩ ?_ ?_⟩
    · rintro j σ H5 hj ⟨rs, v4, v5, v6, v7, v8, v9, v10, v11, rfl, li, rl⟩
      have hj : j < 31 := by omega
      refine ⟨fun σ H' => ∃ (pa : Addr) (qp : List Int), σ = [some (.ref a), some (.ref b), some (.ref x), some (.ref kl), some (.int (0 + (j : Int))), some (.ref pa), v6, v7, v8, v9, v10, v11, none] ∧ LwI K w H0 H' Cb b x d kl rs ∧ SqT K H' pa (qp.map V.int) ∧ qp ≠ [] ∧ qp.length ≤ 5 ∧ ∀ i ∈ qp, 0 ≤ i ∧ i ≤ 1000, ?_, ?_⟩
      · refine ⟨_, rfl, b, 3, rfl, li.bx, by decide, fun i0 H6 i00 i01 B6 U6 => ⟨(by show 1 ≤ sizeLine; decide), fun p1 np1 => ?_⟩⟩
        have li := (li.but U6 B6).same (same_new (o := .tup [V.int i0]) np1)
        have h1 : upd H6 p1 (.tup [V.int i0]) p1 = some (.tup [V.int i0]) := upd_same
        generalize upd H6 p1 (.tup [V.int i0]) = H7 at li h1
        refine ⟨_, rfl, b, 2, rfl, li.bx, by decide, fun i1 H8 i10 i11 B8 U8 => ?_⟩
        have h1 := li.bx.tup U8 (SqT.of (K := K) h1)
        have li := li.but U8 B8
        refine ⟨_, rfl, b, 2, rfl, li.bx, by decide, fun i2 H9 i20 i21 B9 U9 => ?_⟩
        have h1 := li.bx.tup U9 h1
        have li := li.but U9 B9
        refine ⟨(by show 2 ≤ sizeLine; decide), fun p2 np2 => ?_⟩
        have S := same_new (o := .tup [V.int i1, .int i2]) np2
        have h1 := (tpK_same S) _ _ h1
        have li := li.same S
        have h2 : SqT K (upd H9 p2 (.tup [V.int i1, .int i2])) p2 [V.int i1, .int i2] := SqT.of upd_same
        generalize upd H9 p2 (.tup [V.int i1, .int i2]) = H10 at li h1 h2
        refine ⟨_, rfl, b, 3, rfl, li.bx, by decide, fun k H11 k0 k1 B11 U11 => ?_⟩
        have h1 := li.bx.tup U11 h1
        have h2 := li.bx.tup U11 h2
        have li := li.but U11 B11
        refine ⟨p2, k, _, rfl, rfl, h2, (by intro z; cases z), k0, by omega, (by show 2 ≤ 1000; decide), fun e => ?_, fun e p3 np3 => ?_⟩
        · refine ⟨p1, p2, _, _, rfl, rfl, h1, h2, (by intro z; cases z), (by show 1 + 2 ≤ sizeLine; decide), (fun z => by cases z), fun _ p4 np4 => ?_⟩
          refine ⟨p4, [i0, i1, i2], rfl, li.same (same_new np4), SqT.of upd_same, (by intro z; cases z), (by show 3 ≤ 5; decide), fun i hi => ?_⟩
          simp only [List.mem_cons, List.not_mem_nil, or_false] at hi
          omega
        · have S := same_new (o := .tup (List.replicate k.toNat [V.int i1, .int i2]).flatten) np3
          have h1 := (tpK_same S) _ _ h1
          have li := li.same S
          have c : k = 0 ∨ k = 2 := by omega
          rcases c with rfl | rfl
          · have h3 : SqT K (upd H11 p3 (.tup [])) p3 [] := SqT.of upd_same
            refine ⟨p1, p3, _, _, rfl, rfl, h1, h3, (by intro z; cases z), (by show 1 + 0 ≤ sizeLine; decide), (fun _ => ?_), fun z => absurd rfl z⟩
            refine ⟨p1, [i0], rfl, li, h1, (by intro z; cases z), (by show 1 ≤ 5; decide), fun i hi => ?_⟩
            rw [List.mem_singleton.mp hi]
            omega
          · have h3 : SqT K (upd H11 p3 (.tup [V.int i1, .int i2, .int i1, .int i2])) p3 [V.int i1, .int i2, .int i1, .int i2] := SqT.of upd_same
            refine ⟨p1, p3, _, _, rfl, rfl, h1, h3, (by intro z; cases z), (by show 1 + 4 ≤ sizeLine; decide), (fun z => by cases z), fun _ p4 np4 => ?_⟩
            refine ⟨p4, [i0, i1, i2, i1, i2], rfl, li.same (same_new np4), SqT.of upd_same, (by intro z; cases z), (by show 5 ≤ 5; decide), fun i hi => ?_⟩
            simp only [List.mem_cons, List.not_mem_nil, or_false] at hi
            omega
      rintro σ H6 ⟨pa, qp, rfl, li, hpa, qne, qln, qsm⟩
      obtain ⟨i0, qr, rfl⟩ : ∃ i0 qr, qp = i0 :: qr := by
        cases qp with
        | nil => exact absurd rfl qne
        | cons i r => exact ⟨i, r, rfl⟩
      have i0b := qsm i0 (List.mem_cons_self ..)
      refine ⟨_, rfl, pa, _, rfl, hpa, _, _, rfl, rfl, .inr ⟨by decide, by decide⟩, .inl ⟨_, rfl, _, _, rfl, rfl, (by show (0 : Int) < 1000; decide), ?_⟩⟩
      have ix0 : atI ((i0 :: qr).map V.int) ((0 : Nat) : Int) = some (V.int i0) := atI_nat rfl
      refine ⟨_, rfl, pa, _, 0, _, rfl, rfl, hpa, ix0, _, rfl, pa, _, rfl, .inr hpa, _, _, rfl, rfl, (by show 2 ≤ sizeLine; decide), fun ea nea => ?_⟩
      rw [List.length_map]
      have S := same_new (o := .tup [V.int (i0 + ((i0 :: qr).length : Int)), .int 0]) nea
      have hea : SqT K (upd H6 ea (.tup [V.int (i0 + ((i0 :: qr).length : Int)), .int 0])) ea [V.int (i0 + ((i0 :: qr).length : Int)), .int 0] := SqT.of upd_same
      have hpa := (tpK_same S) _ _ hpa
      have li := li.same S
      generalize upd H6 ea (.tup [V.int (i0 + ((i0 :: qr).length : Int)), .int 0]) = H7 at li hea hpa
      refine ⟨fun σ H' => ∃ v : Int, σ = [some (.ref a), some (.ref b), some (.ref x), some (.ref kl), some (.int (0 + (j : Int))), some (.ref pa), some (.int v), some (.ref ea), v8, v9, v10, v11, none] ∧ LwI K w H0 H' Cb b x d kl rs ∧ SqT K H' pa ((i0 :: qr).map V.int) ∧ SqT K H' ea [V.int (i0 + ((i0 :: qr).length : Int)), .int 0] ∧ 0 ≤ v ∧ v < 1000, ?_, ?_⟩
      · refine ⟨_, rfl, b, 6, rfl, li.bx, by decide, fun r H8 r0 r1 B8 U8 => ⟨rfl, _, rfl, ?_⟩⟩
        have hpa := li.bx.tup U8 hpa
        have hea := li.bx.tup U8 hea
        have li := li.but U8 B8
        refine ite2 (fun c => ?_) (fun c => ?_)
        · refine ⟨_, rfl, b, 1000, rfl, li.bx, by decide, fun v H9 v0 v1 B9 U9 => ⟨v, rfl, li.but U9 B9, li.bx.tup U9 hpa, li.bx.tup U9 hea, v0, v1⟩⟩
        · exact ⟨_, rfl, li, hpa, hea, Int.emod_nonneg _ (by decide), Int.emod_lt_of_pos _ (by decide)⟩
      rintro σ H8 ⟨v, rfl, li, hpa, hea, v0, v1⟩
      refine ⟨fun σ H' => ∃ (ea : Addr) (e1 e2 : Int), σ = [some (.ref a), some (.ref b), some (.ref x), some (.ref kl), some (.int (0 + (j : Int))), some (.ref pa), some (.int v), some (.ref ea), v8, v9, v10, v11, none] ∧ LwI K w H0 H' Cb b x d kl rs ∧ SqT K H' pa ((i0 :: qr).map V.int) ∧ SqT K H' ea [V.int e1, .int e2] ∧ (0 ≤ e1 ∧ e1 ≤ 2000) ∧ (0 ≤ e2 ∧ e2 ≤ 2), ?_, ?_⟩
      · refine ⟨_, rfl, b, 9, rfl, li.bx, by decide, fun r H9 r0 r1 B9 U9 => ⟨rfl, _, rfl, ?_⟩⟩
        have hpa := li.bx.tup U9 hpa
        have hea := li.bx.tup U9 hea
        have li := li.but U9 B9
        refine ite2 (fun c => ?_) (fun c => ?_)
        · refine ⟨_, rfl, ea, _, 0, _, rfl, rfl, hea, rfl, _, rfl, b, 2, rfl, li.bx, by decide, fun t H10 t0 t1 B10 U10 => ⟨(by show 2 ≤ sizeLine; decide), fun eb neb => ?_⟩⟩
          have S := same_new (o := .tup [V.int (i0 + ((i0 :: qr).length : Int)), .int t]) neb
          exact ⟨eb, _, _, rfl, (li.but U10 B10).same S, (tpK_same S) _ _ (li.bx.tup U10 hpa), SqT.of upd_same, by omega, by omega⟩
        · exact ⟨ea, _, _, rfl, li, hpa, hea, by omega, by omega⟩
      clear hea nea
      rintro σ H9 ⟨ea, e1, e2, rfl, li, hpa, hea, b1, b2⟩
      refine ⟨_, rfl, _, rfl, _, rfl, (by show 4 ≤ sizeLine; decide), fun ef nef => ?_⟩
      have S := same_new (o := .tup [V.str "effect", .ref pa, .int v, .ref ea]) nef
      have hpa := (tpK_same S) _ _ hpa
      have hea := (tpK_same S) _ _ hea
      have li := li.same S
      have he : EfAt K (upd H9 ef (.tup [V.str "effect", .ref pa, .int v, .ref ea])) ef ⟨i0 :: qr, v, e1, e2⟩ := ⟨pa, ea, SqT.of upd_same, hpa, hea⟩
      generalize upd H9 ef (.tup [V.str "effect", .ref pa, .int v, .ref ea]) = H10 at li hpa hea he
      have sme : SmEf ⟨i0 :: qr, v, e1, e2⟩ := ⟨qne, qln, fun i hi => Sm.of (by have := qsm i hi; omega) (by have := qsm i hi; omega), Sm.of (by show _ ≤ v; omega) (by show v ≤ _; omega), Sm.of (by show _ ≤ e1; omega) (by show e1 ≤ _; omega), Sm.of (by show _ ≤ e2; omega) (by show e2 ≤ _; omega)⟩
      obtain ⟨e, ee⟩ : ∃ e : Ef, e = ⟨i0 :: qr, v, e1, e2⟩ := ⟨_, rfl⟩
      rw [← ee] at he sme
      have eq : e.q = i0 :: qr := by rw [ee]
      rw [← eq] at hpa
      -- the elder one
      refine ⟨_, rfl, kl, rfl, ⟨_, SqL.of li.kn⟩, fun D nD => ?_⟩
      refine lc_list (K := K) (xs := rs.map fun r => V.ref r.1) (fun j H' => Same H10 H' ∧ H' D = some (.lst (((rs.take j).filter fun r => decide (r.2.q = e.q)).map fun r => V.ref r.1))) ⟨same_new nD, upd_same⟩ (fun j H' _ h => SqL.of (h.1 _ _ li.kn)) ?_ ?_
      · rintro i x' H11 hx' ⟨S, hD⟩
        rw [List.getElem?_map] at hx'
        obtain ⟨r, hr', rfl⟩ := Option.map_eq_some_iff.mp hx'
        have hi : i < rs.length := (List.getElem?_eq_some_iff.mp hr').1
        obtain ⟨qa, ea', z1, z2, z3⟩ := (li.bk.ef r (List.mem_of_getElem? hr')).tp (tpK_same S)
        refine ⟨rfl, _, rfl, r.1, _, 1, _, rfl, rfl, z1, rfl, _, rfl, _, _, .tup z2 (dp_ints _), .tup ((tpK_same S) _ _ hpa) (dp_ints _), shaped_path _, shaped_path _, ?_⟩
        rw [show PyData.eqv (.tuple (r.2.q.map PyData.int)) (.tuple (e.q.map PyData.int)) = decide (r.2.q = e.q) from eqv_path _ _]
        refine ⟨_, rfl, ite2 (fun c => ⟨_, rfl, _, hD, ?_, same_upd S nD, ?_⟩) (fun c => ⟨S, ?_⟩)⟩
        · rw [List.length_map]
          exact small_line (by have := List.length_filter_le (fun r : Addr × Ef => decide (r.2.q = e.q)) (rs.take i); rw [List.length_take] at this; omega)
        · refine upd_same.trans ?_
          rw [takeS hr', List.filter_append, List.map_append]
          have : List.filter (fun r : Addr × Ef => decide (r.2.q = e.q)) [r] = [r] := by
            rw [List.filter_cons, if_pos c]
            rfl
          rw [this]
          rfl
        · rw [takeS hr', List.filter_append]
          have : List.filter (fun r : Addr × Ef => decide (r.2.q = e.q)) [r] = [] := by
            rw [List.filter_cons, if_neg c]
            rfl
          rw [this, List.append_nil]
          exact hD
      rintro H11 ⟨S, hD⟩
      rw [List.length_map, List.take_length] at hD
      have li := li.same S
      have he := he.tp (tpK_same S)
      have hh : (rs.filter fun r => decide (r.2.q = e.q)).head? = findE rs e.q := List.head?_filter
      have hm : ∀ r ∈ (rs.filter fun r => decide (r.2.q = e.q)), r ∈ rs := fun r h => (List.mem_filter.mp h).1
      generalize (rs.filter fun r => decide (r.2.q = e.q)) = el at hD hh hm
      clear hpa hea nef nD
      refine ⟨fun σ H' => ∃ (dv : V) (v9 : Option V), σ = [some (.ref a), some (.ref b), some (.ref x), some (.ref kl), some (.int (0 + (j : Int))), some (.ref pa), some (.int v), some (.ref ea), some (.ref ef), v9, some dv, v11, none] ∧ EfAt K H' ef e ∧
        ((findE rs e.q = none ∧ dv = .bl true ∧ Box H' b ∧ But b H0 H' ∧ BookAt K w H' Cb x d rs ∧ H' kl = some (.lst (rs.map (fun r => V.ref r.1) ++ [.ref ef]))) ∨
          (∃ r, findE rs e.q = some r ∧ r.2 = e ∧ dv = .bl false ∧ LwI K w H0 H' Cb b x d kl rs) ∨
          (∃ r t, findE rs e.q = some r ∧ r.2 ≠ e ∧ dv = .ref t ∧ SqT K H' t [.str "refused", .int 1] ∧ LwI K w H0 H' Cb b x d kl rs)), ?_, ?_⟩
      · refine ⟨_, rfl, (by show 0 ≤ sizeLine; decide), fun n1 nn1 => ?_⟩
        have S1 := same_new (o := .lst ([] : List V)) nn1
        have hn1 : upd H11 n1 (.lst []) n1 = some (.lst []) := upd_same
        have li := li.same S1
        have he := he.tp (tpK_same S1)
        have hD := S1 _ _ hD
        generalize upd H11 n1 (.lst []) = H12 at li he hD hn1
        refine ⟨_, _, .lst (SqL.of hD) (dp_efs fun r h => li.bk.ef r (hm r h)), .lst (SqL.of hn1) .nil, shaped_efs _, shaped_efs [], ?_⟩
        rw [eqv_nil]
        cases el with
        | nil =>
          have fn : findE rs e.q = none := hh.symm
          refine ⟨_, rfl, iteF ⟨_, rfl, (by show 0 ≤ sizeLine; decide), fun n2 nn2 => ?_⟩⟩
          have S1 := same_new (o := .lst ([] : List V)) nn2
          have hn2 : upd H12 n2 (.lst []) n2 = some (.lst []) := upd_same
          have li := li.same S1
          have he := he.tp (tpK_same S1)
          have hD := S1 _ _ hD
          generalize upd H12 n2 (.lst []) = H13 at li he hD hn2
          refine ⟨_, _, .lst (SqL.of hD) (dp_efs (rs := []) fun r h => (nomatch h)), .lst (SqL.of hn2) .nil, shaped_efs [], shaped_efs [], ?_⟩
          refine ⟨_, rfl, iteF ⟨_, rfl, .inl ⟨rfl, _, SqL.of li.kn⟩, _, rfl, kl, _, _, rfl, rfl, li.kn, by rw [List.length_map]; exact small_line (by omega), ?_⟩⟩
          obtain ⟨B, U, bk⟩ := li.known ef
          refine ⟨_, _, rfl, he.tp fun a' ys z => ?_, .inl ⟨fn, rfl, B, U, bk, upd_same⟩⟩
          exact (Tp.lst li.kn).seq z
        | cons r el =>
          have fs : findE rs e.q = some r := hh.symm
          have ix : atI ((r :: el).map fun r => V.ref r.1) ((0 : Nat) : Int) = some (V.ref r.1) := atI_nat rfl
          refine ⟨_, rfl, iteT ⟨_, rfl, D, _, 0, _, rfl, rfl, SqL.of hD, ix, _, rfl, _, _, (li.bk.ef r (hm r (List.mem_cons_self ..))).dp, he.dp, shaped_ef _, shaped_ef _, ?_⟩⟩
          by_cases c : r.2 = e
          · rw [(eqv_ef _ _).mpr c]
            exact ⟨_, rfl, iteT ⟨_, _, rfl, he, .inr (.inl ⟨r, fs, c, rfl, li⟩)⟩⟩
          · have c' : PyData.eqv (dEf r.2) (dEf e) = false := Bool.eq_false_iff.mpr fun z => c ((eqv_ef _ _).mp z)
            rw [c']
            refine ⟨_, rfl, iteF ⟨_, rfl, (by show 0 ≤ sizeLine; decide), fun n2 nn2 => ?_⟩⟩
            have S1 := same_new (o := .lst ([] : List V)) nn2
            have hn2 : upd H12 n2 (.lst []) n2 = some (.lst []) := upd_same
            have li := li.same S1
            have he := he.tp (tpK_same S1)
            have hD := S1 _ _ hD
            generalize upd H12 n2 (.lst []) = H13 at li he hD hn2
            refine ⟨_, _, .lst (SqL.of hD) (dp_efs fun r h => li.bk.ef r (hm r h)), .lst (SqL.of hn2) .nil, shaped_efs _, shaped_efs [], ?_⟩
            rw [eqv_nil]
            refine ⟨_, rfl, iteT ⟨(by show 2 ≤ sizeLine; decide), fun t nt => ?_⟩⟩
            have S1 := same_new (o := .tup [V.str "refused", .int 1]) nt
            exact ⟨_, _, rfl, he.tp (tpK_same S1), .inr (.inr ⟨r, t, fs, c, rfl, SqT.of upd_same, li.same S1⟩)⟩
      have li0 := li
      clear hD hh hm li he S
      rintro σ H12 ⟨dv, v9, rfl, he, cases3⟩
      refine ⟨fun σ H' => ∃ (rs' : List (Addr × Ef)) (v9 v10 : Option V), σ = [some (.ref a), some (.ref b), some (.ref x), some (.ref kl), some (.int (0 + (j : Int))), some (.ref pa), some (.int v), some (.ref ea), some (.ref ef), v9, v10, v11, none] ∧ LwI K w H0 H' Cb b x d kl rs' ∧ rs'.length ≤ j + 1, ?_, ?_⟩
      · rcases cases3 with ⟨fn, rfl, B, U, bk, kn⟩ | ⟨r, fs, c, rfl, li⟩ | ⟨r, t, fs, c, rfl, ht, li⟩
        · refine ⟨_, rfl, _, rfl, x, d, ef, rs, e, rfl, bk, he, sme.ne, by omega, fun _ H' keep bk' => ?_, fun r z => (by rw [fn] at z; cases z), fun r z => (by rw [fn] at z; cases z)⟩
          refine ⟨_, rfl, _, _, .bool true, rfl, .bl _, .bl _, short_due.1, _, rfl, iteF ⟨rs ++ [(ef, e)], _, _, rfl, ?_, by rw [List.length_append]; show rs.length + 1 ≤ j + 1; omega⟩⟩
          obtain ⟨ys, hd, _⟩ := bk.nd
          exact .taken li0.B0 B U li0.nod li0.sm li0.nk li0.nd ⟨_, hd⟩ kn fn sme keep bk'
        · refine ⟨_, rfl, _, rfl, x, d, ef, rs, e, rfl, li.bk, he, sme.ne, by omega, fun z => (by rw [fs] at z; cases z), fun r' z c' => ?_, fun r' z c' => ?_⟩
          · exact ⟨_, rfl, _, _, .bool false, rfl, .bl _, .bl _, short_due.2.1, _, rfl, iteF ⟨rs, _, _, rfl, li, by omega⟩⟩
          · rw [fs] at z
            cases z
            exact absurd c c'
        · refine ⟨_, rfl, _, rfl, x, d, ef, rs, e, rfl, li.bk, he, sme.ne, by omega, fun z => (by rw [fs] at z; cases z), fun r' z c' => ?_, fun r' z c' => ⟨rfl, rfl, fun u nu => ?_⟩⟩
          · rw [fs] at z
            cases z
            exact absurd c' c
          · have S1 := same_new (o := .tup [V.str "refused", .int 1]) nu
            have ht := (tpK_same S1) _ _ ht
            exact ⟨_, rfl, _, _, .tuple [.str "refused", .int 1], rfl, .tup (SqT.of upd_same) (.cons (.str _) (.cons (.int _) .nil)), .tup ht (.cons (.str _) (.cons (.int _) .nil)), short_due.2.2, _, rfl, iteF ⟨rs, _, _, rfl, li.same S1, by omega⟩⟩
      clear cases3 he li0 rl
      rintro σ H13 ⟨rs, v9, v10, rfl, li, rl⟩
      obtain ⟨dx, hx, _⟩ := li.bk.at_
      refine ⟨_, rfl, x, dx, _, rfl, hx, rfl, x, d, rs, rfl, li.bk, li.nod, by omega, fun L H14 S nL hL => ?_⟩
      have li13 := li
      have li := li.same S
      obtain ⟨ts, t1, t2, t3⟩ := keyed li.bk.ef
      have efs : ∀ r ∈ sortE rs, EfAt K H14 r.1 r.2 := fun r h => li.bk.ef r (mem_sortE h)
      refine ⟨_, rfl, _, rfl, kl, ts, rfl, rfl, by rw [t1]; exact SqL.of li.kn, fun t ht => ?_, fun t ht => ?_, fun d1 h1 d2 h2 => ?_, .inl fun d1 h1 => ?_, fun t ht => ?_, fun p np => ?_⟩
      · obtain ⟨r, hr', qa, rfl, z1, ea', z2⟩ := t3 t ht
        exact ⟨_, _, _, rfl, z2, rfl, rfl, rfl⟩
      · obtain ⟨r, hr', qa, rfl, z1, ea', z2⟩ := t3 t ht
        exact .tup z1 (dp_ints _)
      · obtain ⟨t, ht, rfl⟩ := List.mem_map.mp h1
        obtain ⟨t', ht', rfl⟩ := List.mem_map.mp h2
        obtain ⟨r, _, qa, rfl, _⟩ := t3 t ht
        obtain ⟨r', _, qa', rfl, _⟩ := t3 t' ht'
        exact path_alike _ _
      · obtain ⟨t, ht, rfl⟩ := List.mem_map.mp h1
        obtain ⟨r, hr', qa, rfl, _⟩ := t3 t ht
        have := li.bk.ne r hr'
        show ∃ y z, dPa r.2.q = .tuple (y :: z)
        cases eq' : r.2.q with
        | nil => exact absurd eq' this
        | cons i z => exact ⟨_, _, rfl⟩
      · obtain ⟨r, hr', qa, rfl, _⟩ := t3 t ht
        exact Nat.le_trans (path_depth _) (by decide)
      rw [t2]
      have S3 := same_new (o := .lst ((sortE rs).map fun r => V.ref r.1)) np
      have hp : upd H14 p (.lst ((sortE rs).map fun r => V.ref r.1)) p = some (.lst ((sortE rs).map fun r => V.ref r.1)) := upd_same
      generalize upd H14 p (.lst ((sortE rs).map fun r => V.ref r.1)) = H15 at S3 hp
      have efs := fun r h => (efs r h).tp (tpK_same S3)
      have hL15 := S3 _ _ hL
      refine ⟨_, _, .list ((sortE rs).map fun r => dEf r.2), rfl, .lst (SqL.of hL15) (dp_efs efs), .lst (SqL.of hp) (dp_efs efs), short_efs (fun r h => li.sm r (mem_sortE h)) (by rw [len_sortE]; omega), _, rfl, iteF ?_⟩
      refine ⟨_, rfl, .inl ⟨rfl, _, SqL.of hL15⟩, L, _, _, rfl, rfl, hL15, by rw [List.length_map, len_sortE]; exact small_line (by omega), ?_⟩
      refine ⟨rs, _, _, _, _, _, _, _, _, rfl, ?_, rl⟩
      exact li13.same (same_upd (S.trans S3) nL)
    · rintro σ H5 ⟨rs, v4, v5, v6, v7, v8, v9, v10, v11, rfl, li, rl⟩
      have rl : rs.length ≤ 30 := by omega
      obtain ⟨dx, hx, _⟩ := li.bk.at_
      refine ⟨_, rfl, x, dx, _, rfl, hx, rfl, x, d, rs, rfl, li.bk, li.nod, by omega, fun L H14 S nL hL => ?_⟩
      have li := li.same S
      obtain ⟨ts, t1, t2, t3⟩ := keyed li.bk.ef
      have efs : ∀ r ∈ sortE rs, EfAt K H14 r.1 r.2 := fun r h => li.bk.ef r (mem_sortE h)
      refine ⟨_, rfl, kl, ts, rfl, rfl, by rw [t1]; exact SqL.of li.kn, fun t ht => ?_, fun t ht => ?_, fun d1 h1 d2 h2 => ?_, .inl fun d1 h1 => ?_, fun t ht => ?_, fun p np => ?_⟩
      · obtain ⟨r, hr', qa, rfl, z1, ea', z2⟩ := t3 t ht
        exact ⟨_, _, _, rfl, z2, rfl, rfl, rfl⟩
      · obtain ⟨r, hr', qa, rfl, z1, ea', z2⟩ := t3 t ht
        exact .tup z1 (dp_ints _)
      · obtain ⟨t, ht, rfl⟩ := List.mem_map.mp h1
        obtain ⟨t', ht', rfl⟩ := List.mem_map.mp h2
        obtain ⟨r, _, qa, rfl, _⟩ := t3 t ht
        obtain ⟨r', _, qa', rfl, _⟩ := t3 t' ht'
        exact path_alike _ _
      · obtain ⟨t, ht, rfl⟩ := List.mem_map.mp h1
        obtain ⟨r, hr', qa, rfl, _⟩ := t3 t ht
        have := li.bk.ne r hr'
        show ∃ y z, dPa r.2.q = .tuple (y :: z)
        cases eq' : r.2.q with
        | nil => exact absurd eq' this
        | cons i z => exact ⟨_, _, rfl⟩
      · obtain ⟨r, hr', qa, rfl, _⟩ := t3 t ht
        exact Nat.le_trans (path_depth _) (by decide)
      rw [t2]
      have S3 := same_new (o := .lst ((sortE rs).map fun r => V.ref r.1)) np
      have hp : upd H14 p (.lst ((sortE rs).map fun r => V.ref r.1)) p = some (.lst ((sortE rs).map fun r => V.ref r.1)) := upd_same
      generalize upd H14 p (.lst ((sortE rs).map fun r => V.ref r.1)) = H15 at S3 hp
      have efs := fun r h => (efs r h).tp (tpK_same S3)
      have hL15 := S3 _ _ hL
      refine ⟨_, _, .list ((sortE rs).map fun r => dEf r.2), rfl, .lst (SqL.of hL15) (dp_efs efs), .lst (SqL.of hp) (dp_efs efs), short_efs (fun r h => li.sm r (mem_sortE h)) (by rw [len_sortE]; omega), ?_⟩
      refine ⟨true, rfl, iteT ?_⟩
      refine fun x2 dx2 nx2 ndx2 ne2 => ⟨x2, dx2, rfl, upd_same, (upd_ne ne2).trans upd_same, fun d2 H16 nd2 keep2 bk2 => ⟨rfl, ?_⟩⟩
      obtain ⟨dx3, hx3, _⟩ := bk2.at_
      refine ⟨x2, dx3, _, rfl, hx3, rfl, x2, d2, [], rfl, bk2, List.nodup_nil, by decide, fun L2' H17 S2 nL2 hL2 => ⟨(by show 0 ≤ sizeLine; decide), fun n2 nn2 => ?_⟩⟩
      have hn2 : upd H17 n2 (.lst []) n2 = some (.lst []) := upd_same
      have hL3 := (same_new (o := .lst ([] : List V)) nn2) _ _ hL2
      have e0 : sortE [] = [] := List.length_eq_zero_iff.mp len_sortE
      rw [e0] at hL3
      refine ⟨.list [], .list [], .lst (SqL.of hL3) .nil, .lst (SqL.of hn2) .nil, shaped_efs [], shaped_efs [], ?_⟩
      have ev : PyData.eqv (.list []) (.list []) = true := eqv_nil []
      rw [ev]
      exact q _
end
end LB

set_option maxRecDepth 100000
set_option maxHeartbeats 8000000
namespace LB
open PySem PySem.Spec PyProof.Rows L2
open PySem.W (nsIn findIn subIn typeIn mroIn keepIn codeIn hasDictIn isClsIn specialIn takesIn)
/-- the law's def keeps its promise, from what the top has written -/
theorem all_mk {l : PySem.W.OpenLaw} {w : World} {K : PySem.W.Frag} {h : Heap} {mg : Str → Option Value} {fa : Addr} (X : K.In h) (G : h.Ns mainGlobals mg) (hfa : mg "law" = some (.ref fa))
    {fCell fDig fDr fAl fLt fLp fLw Cb fIn fTa fEf : Addr} {odCell anCell odDig anDig odDr anDr odAl anAl odLt anLt odLp anLp odLw anLw odIn anIn odTa anTa odEf anEf : Option Addr} {slCell slDig slDr slAl slLt slLp slLw slIn slTa slEf : Array (Option Value)} {ocCell kVCell dcCell pmCell cdCell ctCell ocDig kVDig dcDig pmDig cdDig ctDig ocDr kVDr dcDr pmDr cdDr ctDr ocAl kVAl dcAl pmAl cdAl ctAl ocLt kVLt dcLt pmLt cdLt ctLt ocLp kVLp dcLp pmLp cdLp ctLp ocLw kVLw dcLw pmLw cdLw ctLw ocIn kVIn dcIn pmIn cdIn ctIn ocTa kVTa dcTa pmTa cdTa ctTa ocEf kVEf dcEf pmEf cdEf ctEf : Value} {Cu Cn B : Addr}
    (aCell : nsIn K mainGlobals "_law_cell" = some (some (.ref fCell)))
    (lCell : K.lookup fCell = some ⟨ocCell, odCell, .func (PySem.W.fnOf "_law_cell" "_law_cell" (defArgs sCell) (defBody sCell) (defScope sCell) .none kVCell dcCell pmCell anCell cdCell ctCell), slCell⟩)
    (cCell : codeIn K cdCell "_law_cell" = true)
    (kCell : keepIn K (.ref fCell) = true)
    (aDig : nsIn K mainGlobals "_law_digits" = some (some (.ref fDig)))
    (lDig : K.lookup fDig = some ⟨ocDig, odDig, .func (PySem.W.fnOf "_law_digits" "_law_digits" (defArgs sDigits) (defBody sDigits) (defScope sDigits) .none kVDig dcDig pmDig anDig cdDig ctDig), slDig⟩)
    (cDig : codeIn K cdDig "_law_digits" = true)
    (kDig : keepIn K (.ref fDig) = true)
    (aDr : nsIn K mainGlobals "_law_draw" = some (some (.ref fDr)))
    (lDr : K.lookup fDr = some ⟨ocDr, odDr, .func (PySem.W.fnOf "_law_draw" "_law_draw" (defArgs sDraw) (defBody sDraw) (defScope sDraw) .none kVDr dcDr pmDr anDr cdDr ctDr), slDr⟩)
    (cDr : codeIn K cdDr "_law_draw" = true)
    (kDr : keepIn K (.ref fDr) = true)
    (aAl : nsIn K mainGlobals "_law_alike" = some (some (.ref fAl)))
    (lAl : K.lookup fAl = some ⟨ocAl, odAl, .func (PySem.W.fnOf "_law_alike" "_law_alike" (defArgs sAlike) (defBody sAlike) (defScope sAlike) .none kVAl dcAl pmAl anAl cdAl ctAl), slAl⟩)
    (cAl : codeIn K cdAl "_law_alike" = true)
    (kAl : keepIn K (.ref fAl) = true)
    (aLt : nsIn K mainGlobals "_law_take" = some (some (.ref fLt)))
    (lLt : K.lookup fLt = some ⟨ocLt, odLt, .func (PySem.W.fnOf "_law_take" "_law_take" (defArgs sTake) (defBody sTake) (defScope sTake) .none kVLt dcLt pmLt anLt cdLt ctLt), slLt⟩)
    (cLt : codeIn K cdLt "_law_take" = true)
    (kLt : keepIn K (.ref fLt) = true)
    (aLp : nsIn K mainGlobals "_law_path" = some (some (.ref fLp)))
    (lLp : K.lookup fLp = some ⟨ocLp, odLp, .func (PySem.W.fnOf "_law_path" "_law_path" (defArgs sPath) (defBody sPath) (defScope sPath) .none kVLp dcLp pmLp anLp cdLp ctLp), slLp⟩)
    (cLp : codeIn K cdLp "_law_path" = true)
    (kLp : keepIn K (.ref fLp) = true)
    (aLw : nsIn K mainGlobals "law" = some (some (.ref fLw)))
    (lLw : K.lookup fLw = some ⟨ocLw, odLw, .func (PySem.W.fnOf "law" "law" (defArgs sLaw) (defBody sLaw) (defScope sLaw) .none kVLw dcLw pmLw anLw cdLw ctLw), slLw⟩)
    (cLw : codeIn K cdLw "law" = true)
    (kLw : keepIn K (.ref fLw) = true)
    (aCb : nsIn K mainGlobals "Book" = some (some (.ref Cb)))
    (pgCb : PySem.W.plainGet K Cb Str.empty = true)
    (hdCb : hasDictIn K Cb = true)
    (poCb : PySem.W.plainOver K Cb = true)
    (saCb : findIn K (.ref Cb) "__setattr__" = some (some (.builtin "object.__setattr__")))
    (mkCb : PySem.W.makesIn K Cb = true)
    (kpCb : keepIn K (.ref Cb) = true)
    (nCb_effects : findIn K (.ref Cb) "_effects" = some none)
    (aIn : findIn K (.ref Cb) "__init__" = some (some (.ref fIn)))
    (lIn : K.lookup fIn = some ⟨ocIn, odIn, .func (PySem.W.fnOf "__init__" "Book.__init__" (defArgs bkInit) (defBody bkInit) (defScope bkInit) .none kVIn dcIn pmIn anIn cdIn ctIn), slIn⟩)
    (cIn : codeIn K cdIn "Book.__init__" = true)
    (kIn : keepIn K (.ref fIn) = true)
    (iIn : PySem.W.isFn K (.ref fIn) = true)
    (aTa : findIn K (.ref Cb) "take" = some (some (.ref fTa)))
    (lTa : K.lookup fTa = some ⟨ocTa, odTa, .func (PySem.W.fnOf "take" "Book.take" (defArgs bkTake) (defBody bkTake) (defScope bkTake) .none kVTa dcTa pmTa anTa cdTa ctTa), slTa⟩)
    (cTa : codeIn K cdTa "Book.take" = true)
    (kTa : keepIn K (.ref fTa) = true)
    (iTa : PySem.W.isFn K (.ref fTa) = true)
    (aEf : findIn K (.ref Cb) "effects" = some (some (.ref fEf)))
    (lEf : K.lookup fEf = some ⟨ocEf, odEf, .func (PySem.W.fnOf "effects" "Book.effects" (defArgs bkEffects) (defBody bkEffects) (defScope bkEffects) .none kVEf dcEf pmEf anEf cdEf ctEf), slEf⟩)
    (cEf : codeIn K cdEf "Book.effects" = true)
    (kEf : keepIn K (.ref fEf) = true)
    (iEf : PySem.W.isFn K (.ref fEf) = true)
    (z0 : nsIn K mainGlobals "len" = some none)
    (z1 : nsIn K mainGlobals "range" = some none)
    (z2 : nsIn K mainGlobals "int" = some none)
    (z3 : nsIn K mainGlobals "repr" = some none)
    (z4 : nsIn K mainGlobals "sorted" = some none)
    (z5 : nsIn K mainGlobals "sum" = some none)
    (z6 : nsIn K mainGlobals "isinstance" = some none)
    (uG : nsIn K mainGlobals "UnlikeEffects" = some (some (.ref Cu)))
    (uN : nsIn K mainGlobals "UnlikeNews" = some (some (.ref Cn)))
    (uB : nsIn K mainGlobals "ForetoldError" = some (some (.ref B)))
    (uX : PySem.W.excIn K Cu [.type "ValueError", .type "Exception", .type "BaseException", .type "object"] "ValueError.__new__" = true)
    (uK : keepIn K (.ref Cu) = true)
    (uS : subIn K (.ref Cu) (.type "BaseException") = some true)
    (uT : typeIn K (.ref Cu) = some (.type "type"))
    (uA : findIn K (.ref Cu) "__getattribute__" = some (some (.builtin "BaseException.__getattribute__")))
    (uH : findIn K (.ref Cu) "__getattr__" = some none)
    (uD : hasDictIn K Cu = true)
    (uC : findIn K (.ref Cu) "__class__" = some (some (.builtin "object.__class__")))
    (uE : specialIn K (.builtin "object.__class__") "__get__" = some (some (.builtin "getset_descriptor.__get__")))
    (uF : takesIn K (.builtin "object.__class__") = some true)
    (uM : mroIn K Cu (.type "object") = some true)
    (uUU : subIn K (.ref Cu) (.ref Cu) = some true)
    (uUN : subIn K (.ref Cu) (.ref Cn) = some false)
    (uUB : subIn K (.ref Cu) (.ref B) = some true)
    (uBt : typeIn K (.ref B) = some (.type "type"))
    (uBd : hasDictIn K B = true)
    (uBs : subIn K (.ref B) (.type "BaseException") = some true)
    (uNt : typeIn K (.ref Cn) = some (.type "type"))
    (uNi : isClsIn K Cn = true)
    (uUi : isClsIn K Cu = true) :
    ∃ fd : FuncData, (∀ (s : Shared) (u : Value), BindsTo s fd ⟨[u], []⟩ [("script", u)]) ∧ ∀ base : Heap, K.In base → base.Ns mainGlobals mg → FnG l.prog w K mg base CX0 6 fa fd ["script"] (spLaw K) := by
  have FCell := fun_mk (st := sCell) lCell cCell kCell
  have bCell := FCell.binds (ps := ["script", "k"]) fun _ _ _ _ _ _ us hl => match us, hl with | [_, _], _ => rfl
  have mCell := PySem.W.mg_of X G aCell
  have FDig := fun_mk (st := sDigits) lDig cDig kDig
  have bDig := FDig.binds (ps := ["script", "first", "last"]) fun _ _ _ _ _ _ us hl => match us, hl with | [_, _, _], _ => rfl
  have mDig := PySem.W.mg_of X G aDig
  have FDr := fun_mk (st := sDraw) lDr cDr kDr
  have bDr := FDr.binds (ps := ["box", "many"]) fun _ _ _ _ _ _ us hl => match us, hl with | [_, _], _ => rfl
  have mDr := PySem.W.mg_of X G aDr
  have FAl := fun_mk (st := sAlike) lAl cAl kAl
  have bAl := FAl.binds (ps := ["one", "two"]) fun _ _ _ _ _ _ us hl => match us, hl with | [_, _], _ => rfl
  have mAl := PySem.W.mg_of X G aAl
  have FLt := fun_mk (st := sTake) lLt cLt kLt
  have bLt := FLt.binds (ps := ["book", "effect"]) fun _ _ _ _ _ _ us hl => match us, hl with | [_, _], _ => rfl
  have mLt := PySem.W.mg_of X G aLt
  have FLp := fun_mk (st := sPath) lLp cLp kLp
  have bLp := FLp.binds (ps := ["effect"]) fun _ _ _ _ _ _ us hl => match us, hl with | [_], _ => rfl
  have mLp := PySem.W.mg_of X G aLp
  have FLw := fun_mk (st := sLaw) lLw cLw kLw
  have clCb : Cls K Cb := ⟨pgCb, hdCb, poCb, saCb⟩
  have mgCb := PySem.W.mg_of X G aCb
  have FIn := fun_mk (st := bkInit) lIn cIn kIn
  have bIn := FIn.binds (ps := ["self"]) fun _ _ _ _ _ _ us hl => match us, hl with | [_], _ => rfl
  have MIn : Mk K Cb fIn := ⟨mkCb, aIn, iIn, kpCb⟩
  have FTa := fun_mk (st := bkTake) lTa cTa kTa
  have bTa := FTa.binds (ps := ["self", "effect"]) fun _ _ _ _ _ _ us hl => match us, hl with | [_, _], _ => rfl
  have hTa : Meth K Cb "take" fTa := ⟨aTa, iTa, kTa⟩
  have FEf := fun_mk (st := bkEffects) lEf cEf kEf
  have bEf := FEf.binds (ps := ["self"]) fun _ _ _ _ _ _ us hl => match us, hl with | [_], _ => rfl
  have hEf : Meth K Cb "effects" fEf := ⟨aEf, iEf, kEf⟩
  have n0 := PySem.W.mg_none_of X G z0
  have n1 := PySem.W.mg_none_of X G z1
  have n2 := PySem.W.mg_none_of X G z2
  have n3 := PySem.W.mg_none_of X G z3
  have n4 := PySem.W.mg_none_of X G z4
  have n5 := PySem.W.mg_none_of X G z5
  have n6 := PySem.W.mg_none_of X G z6
  have M0 : Names mg := ⟨n0, n1, n2, n3⟩
  have CB : ClsB K Cb := ⟨clCb, nCb_effects⟩
  have N : OwnE K mg "UnlikeEffects" Cu := ⟨PySem.W.mg_of X G uG, uX, uK, uS, uT⟩
  have kit : ∀ {D : Addr} {b : Bool}, typeIn K (.ref D) = some (.type "type") → isClsIn K D = true → subIn K (.ref Cu) (.ref D) = some b → PySem.W.kitOne K (.ref Cu) (.ref D) = some b := fun {D b} ht hi h => by
    by_cases e : Cu = D
    · subst e
      rw [uUU] at h
      cases h
      unfold PySem.W.kitOne
      rw [if_pos (beq_self_eq_true _)]
    · unfold PySem.W.kitOne
      have ne : ¬ ((Value.ref Cu == Value.ref D) = true) := fun z => e (Value.ref.inj (beq_iff_eq.mp z))
      rw [if_neg ne]
      show (if ((PySem.W.clsIn K D).isSome && typeIn K (.ref D) == some (.type "type")) = true then subIn K (.ref Cu) (.ref D) else none) = some b
      have hi' : (PySem.W.clsIn K D).isSome = true := hi
      rw [if_pos (by rw [ht, hi'] <;> rfl), h]
  have EU : ErrU K mg Cu Cn B := { gU := PySem.W.mg_of X G uG, gN := PySem.W.mg_of X G uN, gB := PySem.W.mg_of X G uB, N := ⟨uA, uH, uS, uD, uC, uE, uF, uM⟩, eUB := PySem.W.exm_ref uBs uBd uBt uUB, kU := kit uT uUi uUU, kN := kit uNt uNi uUN, isi := n6 }
  have e := hfa.symm.trans (PySem.W.mg_of X G aLw)
  cases e
  refine ⟨_, fun s v => .of_eq rfl, fun base _ _ => ok_law (Cb := Cb) (Cu := Cu) FLw ?_⟩
  have GT : FnOk l.prog w K mg base (L2.CX l.prog w) 2 fTa _ ["self", "effect"] (spBkTake K w Cb Cu) := ok_bkTake FTa CB N
  exact
    { D := ⟨_, _, ok_draw FDr M0, mDr, kDr, bDr⟩, G := ⟨_, _, ok_digits FDig M0 FCell mCell bCell, mDig, kDig, bDig⟩, A := ⟨_, _, ok_alike FAl M0, mAl, kAl, bAl⟩,
      T := ⟨_, _, ok_takeL FLt CB EU GT hTa bTa, mLt, kLt, bLt⟩, P_ := ⟨_, _, ok_path FLp, mLp, bLp⟩, cls := CB, mB := mgCb,
      I := ⟨_, _, ok_bkInit FIn CB, MIn, bIn⟩, E := ⟨_, _, ok_bkEffects FEf CB n4, hEf, bEf⟩, names := M0, sorted := n4, sum := n5 }
end LB

open PySem PySem.W PyProof.Rows
set_option maxRecDepth 100000 in
set_option maxHeartbeats 0 in
theorem PySem.Challenge.cw_asforetold_k61_books_take_each_once_holds : PySem.Challenge.rw_asforetold_k61_books_take_each_once.Holds := by
  w_on; o_law; k_head; (case hw => w_witness2)
  k_fill
  refine LB.walk_free (l := PySem.Challenge.rw_asforetold_k61_books_take_each_once) (n := 63) (k := 6) (x := "script") (CX := L2.CX0) (sp := LB.spLaw) rfl (by decide) rfl ⟨rfl, by decide, by decide⟩ (fun w h Y => PySem.W.kIn_of Y) ?F (fun K H a ns hl _ hS => ⟨a, ns, rfl, hS, fun _ => rfl⟩) fun _ _ _ _ z => z
  case F =>
    intro w mg fa h KX G hmg
    refine' LB.all_mk KX G hmg ?aCell ?lCell ?cCell ?kCell ?aDig ?lDig ?cDig ?kDig ?aDr ?lDr ?cDr ?kDr ?aAl ?lAl ?cAl ?kAl ?aLt ?lLt ?cLt ?kLt ?aLp ?lLp ?cLp ?kLp ?aLw ?lLw ?cLw ?kLw ?aCb ?pgCb ?hdCb ?poCb ?saCb ?mkCb ?kpCb ?nCb_effects ?aIn ?lIn ?cIn ?kIn ?iIn ?aTa ?lTa ?cTa ?kTa ?iTa ?aEf ?lEf ?cEf ?kEf ?iEf ?z0 ?z1 ?z2 ?z3 ?z4 ?z5 ?z6 ?uG ?uN ?uB ?uX ?uK ?uS ?uT ?uA ?uH ?uD ?uC ?uE ?uF ?uM ?uUU ?uUN ?uUB ?uBt ?uBd ?uBs ?uNt ?uNi ?uUi
    (case aCell => k_is)
    (case lCell => k_is)
    (case cCell => k_is)
    (case kCell => k_is)
    (case aDig => k_is)
    (case lDig => k_is)
    (case cDig => k_is)
    (case kDig => k_is)
    (case aDr => k_is)
    (case lDr => k_is)
    (case cDr => k_is)
    (case kDr => k_is)
    (case aAl => k_is)
    (case lAl => k_is)
    (case cAl => k_is)
    (case kAl => k_is)
    (case aLt => k_is)
    (case lLt => k_is)
    (case cLt => k_is)
    (case kLt => k_is)
    (case aLp => k_is)
    (case lLp => k_is)
    (case cLp => k_is)
    (case kLp => k_is)
    (case aLw => k_is)
    (case lLw => k_is)
    (case cLw => k_is)
    (case kLw => k_is)
    (case aCb => k_is)
    (case pgCb => k_is)
    (case hdCb => k_is)
    (case poCb => k_is)
    (case saCb => k_is)
    (case mkCb => k_is)
    (case kpCb => k_is)
    (case nCb_effects => k_is)
    (case aIn => k_is)
    (case lIn => k_is)
    (case cIn => k_is)
    (case kIn => k_is)
    (case iIn => k_is)
    (case aTa => k_is)
    (case lTa => k_is)
    (case cTa => k_is)
    (case kTa => k_is)
    (case iTa => k_is)
    (case aEf => k_is)
    (case lEf => k_is)
    (case cEf => k_is)
    (case kEf => k_is)
    (case iEf => k_is)
    (case z0 => k_is)
    (case z1 => k_is)
    (case z2 => k_is)
    (case z3 => k_is)
    (case z4 => k_is)
    (case z5 => k_is)
    (case z6 => k_is)
    (case uG => k_is)
    (case uN => k_is)
    (case uB => k_is)
    (case uX => k_exc)
    (case uK => k_is)
    (case uS => k_is)
    (case uT => k_is)
    (case uA => k_is)
    (case uH => k_is)
    (case uD => k_is)
    (case uC => k_is)
    (case uE => k_is)
    (case uF => k_is)
    (case uM => k_is)
    (case uUU => k_is)
    (case uUN => k_is)
    (case uUB => k_is)
    (case uBt => k_is)
    (case uBd => k_is)
    (case uBs => k_is)
    (case uNt => k_is)
    (case uNi => k_is)
    (case uUi => k_is)

