import PyProof.Rows.All
import Wide.All
import OpenK.AllK
import Wide.FinOn
import HandS.ForExc
import HandS.EndBits
import HandS.Wide
import HandS.TupLe
import PyProof.StrBlock2
import HandS.Text
import HandS.Dict
import HandS.DictComp
import HandS.List
import HandS.Walk
import PyProof.EqLayable
import HandS.ExcSuper
import HandS.ExcIs
import KE.KExcSuper
import KE.KExcIs
import HandS.ExcOwn
import HandS.Call
import HandS.Exc
import HandS.TryMany
import HandS.Codes
import HandS.Comp
import HandS.TupAny
import HandS.Strs
import HandS.NoneIn
import HandS.Iter
import HandS.IsInst
import KE.KEqSeq
import KE.KExcLine
import PySem.Challenge.RW_asforetold_k42_cut_on_schedule
set_option Elab.async false
set_option linter.all false
set_option maxRecDepth 100000
set_option maxHeartbeats 2000000
namespace LB
open PySem PySem.Spec PyProof.Rows L2
/-! ### defs that are called where no repr is under way -/
def Free (A : Around) : Prop := A.guards = some []
/-- as a def's promise, but told of calls from places at which no repr is under way alone -/
structure FnG (P : Program) (w : World) (K : PySem.W.Frag) (mg : Str → Option Value) (base : Heap) (CX : CXT) (k : Nat) (f : Addr) (fd : FuncData) (ps : List Str) (sp : Sp) : Prop where
  many : ∀ xs H Q E, sp xs H Q E → xs.length = ps.length
  goes : ∀ (A : Around) (fr : List Env) (s : Shared) (H : Hp) (a : Args) (us : List Value) (xs : List V) (Q : VK) (E : XK), Free A → Room k A → Env0 P w K mg base A fr s H →
    BindsTo s fd a (ps.zip us) → Vals xs us → sp xs H Q E → codeAny (model P w) A (.call (.ref f) a) (CR CX fr P w H s Q E) s
theorem FnG.ofOk {P : Program} {w : World} {K : PySem.W.Frag} {mg : Str → Option Value} {base : Heap} {CX : CXT} {k : Nat} {f : Addr} {fd : FuncData} {ps : List Str} {sp : Sp} (F : FnOk P w K mg base CX k f fd ps sp) : FnG P w K mg base CX k f fd ps sp :=
  ⟨F.len, fun A fr s H a us xs Q E _ => F.run A fr s H a us xs Q E⟩
theorem FnG.up {P : Program} {w : World} {K : PySem.W.Frag} {mg : Str → Option Value} {base : Heap} {CX : CXT} {j k : Nat} {f : Addr} {fd : FuncData} {ps : List Str} {sp : Sp} (F : FnG P w K mg base CX j f fd ps sp) (h : j ≤ k) : FnG P w K mg base CX k f fd ps sp :=
  ⟨F.many, fun A fr s H a us xs Q E g r => F.goes A fr s H a us xs Q E g (r.mono h)⟩
theorem Free.deeper {A : Around} (g : Free A) (env : Env) : Free (A.deeper env) := by
  first
    | exact g
    | (unfold Free at *; simpa [Around.deeper] using g)
/-- by the body, as fn_of -/
theorem FnG.by_body {CX : CXT} {P : Program} {w : World} {K : PySem.W.Frag} {mg : Str → Option Value} {base : Heap} {k : Nat} {f : Addr} {x q : Str} {pa : Arguments} {bd : List Stmt} {sc : Scope} {v1 v2 v3 v4 v5 v6 v7 : Value} {a1 a2 : Option Addr}
    {sl : Array (Option Value)} {N ps : List Str} {sp : Sp} (at_ : K.lookup f = some ⟨v7, a2, .func (PySem.W.fnOf x q pa bd sc v1 v2 v3 v4 a1 v5 v6), sl⟩) (code : PySem.W.codeIn K v5 q = true) (S : FnScope N ps sc)
    (many : ∀ xs H Q E, sp xs H Q E → xs.length = ps.length)
    (body : ∀ (A : Around) (fr : List Env) (s : Shared) (H : Hp) (xs : List V) (Q : VK) (E : XK), Free (A.deeper (envOfC q sc s.heap.objs.size f v5)) → Room k (A.deeper (envOfC q sc s.heap.objs.size f v5)) → sp xs H Q E →
      ∃ t, PSs (cxOf CX P w K mg base N q sc f v5 A fr s H E) bd t ∧ t { nx := fun _ H' => Q .non H', rt := Q } (start N xs) H) :
    FnG P w K mg base CX (k + 1) f (PySem.W.fnOf x q pa bd sc v1 v2 v3 v4 a1 v5 v6) ps sp := by
  constructor
  · exact many
  intro A fr s H a us xs Q E g room e0 bound vals want
  have kin : K.In s.heap := e0.mod.kin.keeps fun b o z => (e0.bs b o z).1
  have nolim : s.heap.NoLimit := e0.mod.nolimit.keeps fun b o z => (e0.bs b o z).1
  have len := many _ _ _ _ want
  obtain ⟨t, derived, reads⟩ := body A fr s H xs Q E (g.deeper _) (room.deeper _) want
  have kinds : ∀ y ∈ ps.zip us, sc.names.lookup y.1 = some .local ∨ (sc.names.lookup y.1 = some .cell ∧ ((cellsFrom (s.heap.objs.size + 1) sc.names []).lookup y.1).isSome = true) := by
    rintro ⟨n, v⟩ hy
    cases S.par n (List.of_mem_zip hy).1 with
    | inl z => exact .inl z
    | inr z => exact .inr ⟨z, PySem.W.cellsFrom_some _ _ _ (.inl z)⟩
  refine codeAny_call_function room.depth (kin _ _ at_) rfl S.co S.gen rfl (PySem.W.codeRec_of kin code) (bound _ _ _ _ ?_)
  refine wpAny_newFunctionEnv_cells S.kind kinds ?_
  intro env he s1 into
  subst he
  refine ⟨nolim.keeps into.toInCall.keep, codeAny_func ?_⟩
  have I := inv_start (CX := CX) (E := E) S room.hd e0 len vals into
  refine wpAny_mono (derived.run [] s1 (start N xs) H _ I reads) ?_ (fun _ _ z => z)
  intro fl s2 z
  cases fl with
  | next =>
    obtain ⟨σ2, H2, J, q⟩ := z
    exact ⟨.non, H2, J.os, J.bare, J.base, J.hok, rfl, q⟩
  | ret u =>
    obtain ⟨v, σ2, H2, J, r, q⟩ := z
    exact ⟨v, H2, J.os, J.bare, J.base, J.hok, r, q⟩
  | brk =>
    obtain ⟨_, _, _, q⟩ := z
    exact q.elim
  | cont =>
    obtain ⟨_, _, _, q⟩ := z
    exact q.elim
theorem FnG.of_fun {P : Program} {w : World} {K : PySem.W.Frag} {mg : Str → Option Value} {base : Heap} {x q : Str} {st : Stmt} {f : Addr} {fd : FuncData} {N ps : List Str} {k : Nat} {sp : Sp} (F : Fun K x q st f fd) (S : FnScope N ps (defScope st)) (many : ∀ xs H Q E, sp xs H Q E → xs.length = ps.length)
    (body : ∀ (cdv : Value) (A : Around) (fr : List Env) (s : Shared) (H : Hp) (xs : List V) (Q : VK) (E : XK), Free (A.deeper (envOfC q (defScope st) s.heap.objs.size f cdv)) → Room k (A.deeper (envOfC q (defScope st) s.heap.objs.size f cdv)) → sp xs H Q E →
      ∃ t, PSs (cxOf CX0 P w K mg base N q (defScope st) f cdv A fr s H E).nox (defBody st) t ∧ t { nx := fun _ H' => Q .non H', rt := Q } (start N xs) H) : FnG P w K mg base CX0 (k + 1) f fd ps sp := by
  obtain ⟨v7, a2, v2, v3, v4, a1, v5, v6, sl, rfl, at_, code⟩ := F.ex
  refine FnG.by_body at_ code S many ?_
  intro A fr s H xs Q E g r want
  obtain ⟨t, h, q⟩ := body v5 A fr s H xs Q E g r want
  exact ⟨t, h.nox, q⟩
section
variable {X : Cx} {CX : CXT} {k : Nat} {f : Addr} {fd : FuncData} {ps : List Str} {sp : Sp} {dvs : List V} {ds : List Value} {E : XK} {x : Str} {p pos : Pos} {e : Expr} {es : List Expr} {t : TA}
/-- f(e, ..), f such a def -/
theorem pe_callF (g : Free X.A) (F : FnG X.prog X.w X.K X.mg X.base CX k f fd ps sp) (hr : Room k X.A) (hg : Gl X x) (hm : X.mg x = some (.ref f)) (hk : PySem.W.keepIn X.K (.ref f) = true) (hb : Binds X.K fd ps ds) (hd : Vals dvs ds) (hx : Passes CX X E)
    (ha : PA X (e :: es) t) (hdb : (x == ("__debug__" : Str)) = false := by decide) (he : starEach (e :: es) X.env = (false, eval e X.env) :: starEach es X.env := by rfl) (hpl : (backTo pos (starEach es X.env)).any (·.1) = false := by rfl) :
    PE X (.Call (.Name x p) (e :: es) [] pos) (tCall sp dvs E t) := by
  constructor
  intro pins s σ H Q I h
  refine wpAny_Call_Name_kw (ld_glob I hg hm ?_ hdb)
  refine PySem.W.callWith_K (h₀ := X.base) I.ok.mod.kin hk (thn (ha.run pos pins s σ H _ I h) ?_) he hpl
  rintro us s1 ⟨xs, H1, I1, r, q⟩
  refine ⟨I1.kIn, ?_⟩
  have r2 : Vals (xs ++ dvs) (us ++ ds) := r.append hd
  have len : (us ++ ds).length = ps.length := r2.length.symm.trans (F.many _ _ _ _ q)
  refine wpAny_call (codeAny_mono (F.goes X.A X.stack s1 H1 ⟨us, []⟩ (us ++ ds) (xs ++ dvs) Q E g hr I1.env0 (hb s1 us I1.kIn len) r2 q) ?_)
  intro res s2 z
  match res, z with
  | .error err, z => exact hx pins σ H1 s1 err s2 I1 z
  | .ok (.ret u), z => exact I1.after z
  | .ok .next, z => exact False.elim z
  | .ok .brk, z => exact False.elim z
  | .ok .cont, z => exact False.elim z
end
end LB

set_option maxRecDepth 100000
set_option maxHeartbeats 2000000
namespace LB
open PySem PySem.Spec PyProof.Rows L2
/-! ### repr of data -/
/-- data whose repr is short enough to be told -/
structure Short (d : PyData) : Prop where
  sh : d.showable = true
  nd : d.hasDict = false
  dp : d.depth ≤ 50
  len : d.shown.length ≤ sizeLine
def rRepr (K : PySem.W.Frag) : List V → Hp → VK → Prop := fun xs H Q => ∃ v d, xs = [v] ∧ Dp K H v d ∧ Short d ∧ Q (.str d.shown) H
theorem call_repr {X : Cx} (g : Free X.A) (hu : X.A.units + 64 < cLine) : CallR X (.builtin "repr") (rRepr X.K) := by
  intro pins s σ H xs us Q I r h
  obtain ⟨v, d, rfl, hd, S, q⟩ := h
  obtain ⟨u, rfl, ru⟩ := vals1 r
  obtain ⟨as, rd⟩ := Dp.reads I d v u hd ru
  have fin : ∀ (a : Addr), Reads s.heap (.ref a) d as → wpAny (model X.prog X.w) X.A (call (.builtin "repr") [.ref a]) (EP X pins σ Q) X.xe s := fun a ra => by
    have dp := S.dp
    refine repr_of_reads' ra S.sh (PyData.noDict_hsm S.nd) g (by omega) (fun _ _ z => z) ?_ S.len
    intro h' t tk kept
    exact ⟨.str d.shown, H, I.kept kept, ⟨_, rfl⟩, q⟩
  cases rd with
  | none => exact PySem.P.repr_of_none ⟨.str _, H, I.tok _, ⟨_, rfl⟩, q⟩
  | bool b => exact PySem.P.repr_of_bool ⟨.str _, H, I.tok _, ⟨_, rfl⟩, q⟩
  | int i t => exact PySem.P.repr_of_int (by have z := S.sh; simpa [PyData.showable] using z) ⟨.str _, H, I.tok _, ⟨_, rfl⟩, q⟩
  | str x t => exact PySem.P.repr_of_str ⟨.str _, H, I.tok _, ⟨_, rfl⟩, q⟩ S.len
  | list h1 h2 h3 h4 => exact fin _ (.list h1 h2 h3 h4)
  | tuple h1 h2 h3 h4 => exact fin _ (.tuple h1 h2 h3 h4)
  | dict h1 h2 h3 h4 h5 => exact absurd S.nd (by simp [PyData.hasDict])
/-- small ints, texts of up to a million signs in all -/
theorem Short.of {d : PyData} (h1 : d.showable = true) (h2 : d.hasDict = false) (h3 : d.depth ≤ 50) (h4 : d.leavesShort 13 = true) (h5 : d.bulk ≤ 2 ^ 20) : Short d :=
  ⟨h1, h2, h3, PyData.shown_fits_bulk (by decide) (by decide) h4 h5⟩
theorem log_small {i : Int} (h : i.natAbs < 10 ^ 12) : i.natAbs.log2 < 1920 := by
  by_cases z : i.natAbs = 0
  · rw [z]; decide
  · have := (Nat.log2_lt z (k := 1920)).mpr (Nat.lt_trans h (by decide))
    exact this
theorem leaf_small {i : Int} (h : i.natAbs < 10 ^ 12) : (PyData.shown (.int i)).length ≤ 13 := PyData.shown_int_le (by simpa using h)
/-- an int below 10 ^ 12 in size -/
def Sm (i : Int) : Prop := i.natAbs < 10 ^ 12
theorem Sm.of {i : Int} (h1 : -1000000000 ≤ i) (h2 : i ≤ 1000000000) : Sm i := by
  have e : (10 : Nat) ^ 12 = 1000000000000 := by decide
  unfold Sm
  rw [e]
  omega
/-! ### two values of one repr -/
def spAlike (K : PySem.W.Frag) : Sp := fun vs H Q _ => ∃ x y d, vs = [x, y] ∧ Dp K H x d ∧ Dp K H y d ∧ Short d ∧ Q (.bl true) H
end LB

set_option maxRecDepth 100000
set_option maxHeartbeats 2000000
namespace LB
open PySem PySem.Spec PyProof.Rows L2
/-! ### the end of a law's row whose def is told of free places alone -/
section
variable {P : Program} {w : World} {K : PySem.W.Frag} {mg mb : Str → Option Value} {CX : CXT} {k : Nat} {fa a : Addr} {fd : FuncData} {x : Str} {sp : Sp} {z : Shared} {us : List Value} {ns : List Int}
/-- what law answers, from a heap H that tracks the script at most -/
theorem answer_from {H : Hp} (g : z.gens = #[]) (only : Only H) (alone : ∀ b, H b ≠ none → b = a) (isL : ∃ d n, (z.heap.get? a).map Obj.data = some (.seq d n)) (kin : K.In z.heap) (apart : H a ≠ none → K.lookup a = none)
    (ng : z.heap.Ns mainGlobals mg) (nb : z.heap.Ns builtinsNs mb) (boot : ∀ y : Str, y ≠ "__name__" → mb y = bootBuiltins y) (nolim : z.heap.NoLimit) (hok : HOk P w H z.heap) (room : Room k callerA)
    (F : ∀ b : Heap, K.In b → b.Ns mainGlobals mg → FnG P w K mg b CX k fa fd [x] sp) (binds : ∀ (s : Shared) (u : Value), BindsTo s fd ⟨[u], []⟩ [(x, u)])
    (want : sp [.ref a] H (fun v _ => v = .bl true) fun _ _ _ => False) (calm : ∀ e s', CX [] H z (fun _ _ _ => False) e s' → False) :
    codeAny (model P w) callerA (.call (.ref fa) ⟨[.ref a], []⟩) (fun r s' => r = .ok (.ret (.bool true)) ∧ OldK z.heap s'.heap ∧ s'.os = z.os ∧ AllBare s'.gens) z := by
  have dictFree : ∀ {b : Addr} {o : Obj} {es : Array DictEntry} {n : Nat}, z.heap.get? b = some o → o.data = .dict es n → H b = none := by
    intro b o es n at_ da
    by_cases q : H b = none
    · exact q
    · have eb := alone b q
      subst eb
      obtain ⟨d, m, e⟩ := isL
      rw [at_] at e
      have e2 := Option.some.inj e
      rw [da] at e2
      cases e2
  have moved : ∀ {b : Addr} {m : Str → Option Value}, z.heap.Ns b m → (hidT z.heap H).Ns b m := by
    rintro b m ⟨o, es, n, at_, da, r⟩
    exact ⟨o, es, n, hidT_get at_ (dictFree at_ da), da, r⟩
  have kin2 : K.In (hidT z.heap H) := by
    intro b o at_
    refine hidT_get (kin b o at_) ?_
    by_cases q : H b = none
    · exact q
    · have eb := alone b q
      subst eb
      rw [apart q] at at_
      cases at_
  obtain ⟨mc, c1, c2⟩ := nolim
  have e0 : Env0 P w K mg (hidT z.heap H) callerA [] z H :=
    { frames := rfl, mod := ⟨kin2, moved ng, ⟨mb, moved nb, boot⟩, ⟨mc, moved c1, c2⟩⟩, bs := fun _ _ at_ => of_hidT at_, bsz := Nat.le_of_eq (hidT_size _ _), funs := trivial,
      frf := fun b hb => absurd (show b ∈ ([] : List Addr) from hb) List.not_mem_nil, hok := hok, bare := .of_eq g }
  refine codeAny_mono ((F _ kin2 (moved ng)).goes callerA [] z H ⟨[.ref a], []⟩ [.ref a] [.ref a] _ _ rfl room e0 (binds z (.ref a)) (.cons rfl .nil) want) ?_
  intro r s' out
  match r, out with
  | .error e, out => exact (calm e s' out).elim
  | .ok .next, out => exact False.elim out
  | .ok .brk, out => exact False.elim out
  | .ok .cont, out => exact False.elim out
  | .ok (.ret u), out =>
    obtain ⟨v, H', os, bare, un, hok', r', q⟩ := out
    have q' : v = .bl true := q
    subst q'
    have eu : u = Value.bool true := r'
    subst eu
    refine ⟨rfl, OldK.of_keep ?_, os, bare⟩
    intro b o at_
    by_cases q : H b = none
    · exact un.keep b o at_ q (fun y => absurd (show b ∈ ([] : List Addr) from y) List.not_mem_nil) List.not_mem_nil
    · rcases only b with y | ⟨ob, xs, y⟩
      · exact absurd y q
      · obtain ⟨e1, _⟩ := hok b _ y
        obtain ⟨e2, _⟩ := hok' b _ (un.frzs b ob _ y)
        rw [at_] at e1
        cases e1
        exact e2
end
theorem walk_free {l : PySem.W.OpenLaw} {n k : Nat} {q : Program} {loose : List Str} {XP : (Str → Option Value) → Heap → Prop} {YP : World → Heap → Prop} {d : DefRec} {K : Params → PySem.W.Frag} {CX : CXT} {sp : PySem.W.Frag → Sp} {x : Str}
    (most : l.most = some n) (small : n ≤ sizeLine) (plain : d.params.defaults = []) (room : Room k callerA) (hY : ∀ (w : World) (h : Heap), YP w h → (K w.params).In h)
    (F : ∀ (w : World) (mg : Str → Option Value) (fa : Addr) (h : Heap), (K w.params).In h → h.Ns mainGlobals mg → mg d.name = some (.ref fa) →
      ∃ fd : FuncData, (∀ (s : Shared) (u : Value), BindsTo s fd ⟨[u], []⟩ [(x, u)]) ∧ ∀ base : Heap, (K w.params).In base → base.Ns mainGlobals mg → FnG l.prog w (K w.params) mg base CX k fa fd [x] (sp (K w.params)))
    (want : ∀ (K : PySem.W.Frag) (H : Hp) (a : Addr) (ns : List Int), ns.length ≤ n → (∀ i ∈ ns, Builtin.Int.intBits i ≤ 1048576) → SqL K H a (ns.map V.int) → sp K [.ref a] H (fun v _ => v = .bl true) fun _ _ _ => False)
    (calm : ∀ (H : Hp) (s : Shared) (e : Value) (s' : Shared), CX [] H s (fun _ _ _ => False) e s' → False) :
    PySem.W.WalkO q loose XP YP l.row.toRowW d [] (fun f vs => PySem.call f vs) := by
  refine Att.attach_callB most plain ?_
  intro w s₀ z mg mb fa o pm cd doc a us ns G Y ho hd hcd hmg at_ nums len bits g
  have kin := hY w _ Y
  obtain ⟨fd, hb, hF⟩ := F w mg fa _ kin G.T.g hmg
  have vals := vals_ints nums
  have lenU : us.length = ns.length := nums.length
  have lenS : (ns.map V.int).length ≤ sizeLine := by rw [List.length_map]; exact Nat.le_trans len small
  have isL : ∃ d n, (z.heap.get? a).map Obj.data = some (.seq d n) := ⟨us.toArray, _, by rw [at_]; rfl⟩
  cases lk : (K w.params).lookup a with
  | some ob =>
    have eo := kin a ob lk
    rw [at_] at eo
    cases eo
    refine answer_from (H := fun _ => none) g (fun _ => .inl rfl) (fun b y => absurd rfl y) isL kin (fun y => absurd rfl y) G.T.g G.T.b G.T.builtins G.T.nolimit (fun b u y => by cases (show (none : Option HO) = some u from y)) room hF hb ?_ fun e s' => calm _ z e s'
    exact want _ _ a ns len bits (.inr ⟨_, us.toArray, _, lk, rfl, rfl, rfl, by simpa [lenU] using lenS, by simpa using vals⟩)
  | none =>
    let S : HO := .frz { cls := .type "list", data := .seq us.toArray } (.lst (ns.map V.int))
    have yes : upd (fun _ => none) a S a = some S := upd_same
    have no : ∀ b, b ≠ a → upd (fun _ => none) a S b = none := fun b hb => by rw [upd_ne hb]
    refine answer_from (H := upd (fun _ => none) a S) g (fun b => ?_) (fun b y => ?_) isL kin (fun _ => lk) G.T.g G.T.b G.T.builtins G.T.nolimit (fun b u y => ?_) room hF hb ?_ fun e s' => calm _ z e s'
    · by_cases hb : b = a
      · subst hb
        exact .inr ⟨_, _, yes⟩
      · exact .inl (no b hb)
    · exact Classical.byContradiction fun hb => y (no b hb)
    · by_cases hb : b = a
      · subst hb
        have ey := Option.some.inj (yes.symm.trans y)
        subst ey
        exact ⟨at_, lenS, us, _, vals, at_⟩
      · rw [no b hb] at y
        cases y
    · exact want _ _ a ns len bits (.inl (.inr ⟨_, yes⟩))
end LB

set_option maxRecDepth 100000
set_option maxHeartbeats 2000000
namespace LB
open PySem PySem.Spec PyProof.Rows L2
/-! ### text * int -/
theorem op_mulS {X : Cx} : OpR X (binaryOp .Mult) (fun x y H Q => ∃ z n, x = .str z ∧ y = .int n ∧ MulOk z n ∧ Q (.str (Txt.mul z n)) H) := by
  intro pins s σ H x y v u Q I rx ry h
  obtain ⟨z, n, rfl, rfl, ok, q⟩ := h
  obtain ⟨t, rfl⟩ := rx
  obtain ⟨t', rfl⟩ := ry
  exact SB.mul ok fun t' k => ⟨.str _, H, I.tok k, ⟨t', rfl⟩, q⟩
/-! ### len of a text, told of no place -/
theorem call_lenS {X : Cx} : CallR X (.builtin "len") (fun xs H Q => ∃ z : Str, xs = [.str z] ∧ z.length ≤ sizeLine ∧ Q (.int z.length) H) := by
  intro pins s σ H xs us Q I r h
  obtain ⟨z, rfl, hz, q⟩ := h
  exact call_len pins s σ H _ us Q I r ⟨_, z.length, rfl, ⟨hz, rfl⟩, q⟩
end LB

set_option maxRecDepth 100000
set_option maxHeartbeats 4000000
namespace LB
open PySem PySem.Spec PyProof.Rows L2 TL
/-! ### texts by their codes, slices, dicts made out of a text -/
def ofL (l : List Nat) : Str := ⟨l.toArray⟩
theorem tl_ofL (l : List Nat) : tl (ofL l) = l := by simp [ofL, tl]
theorem ofL_len (l : List Nat) : (ofL l).length = l.length := by rw [len_tl, tl_ofL]
theorem ofL_app (a b : List Nat) : ofL a ++ ofL b = ofL (a ++ b) := ext_tl (by rw [tl_append, tl_ofL, tl_ofL, tl_ofL])
theorem ofL_tl (z : Str) : ofL (tl z) = z := ext_tl (tl_ofL _)
theorem ofL_inj {a b : List Nat} (h : ofL a = ofL b) : a = b := by rw [← tl_ofL a, h, tl_ofL]
theorem joinL_nil : ∀ ps : List (List Nat), joinL [] ps = ps.flatten
  | [] => rfl
  | [p] => by simp [joinL]
  | p :: q :: r => by
    show p ++ ([] ++ joinL [] (q :: r)) = _
    rw [joinL_nil (q :: r)]
    simp
theorem join_ofL (cs : List Nat) : Txt.join "" (cs.map fun c => ofL [c]) = ofL cs := by
  refine ext_tl ?_
  rw [TL.join_eq, tl_join, tl_ofL, show tl ("" : Str) = [] by decide, joinL_nil, List.map_map]
  induction cs with
  | nil => rfl
  | cons c r ih =>
    rw [List.map_cons, List.flatten_cons, ih]
    show tl (ofL [c]) ++ r = c :: r
    rw [tl_ofL]
    rfl
theorem ones_sum : ∀ cs : List Nat, ((cs.map fun c => ofL [c]).map (·.length)).sum = cs.length
  | [] => rfl
  | c :: r => by
    rw [List.map_cons, List.map_cons, List.sum_cons, ones_sum r, ofL_len, List.length_cons, List.length_cons, List.length_nil]
    omega
theorem ones_room {cs : List Nat} (h : cs.length ≤ 16777216) : ((cs.map fun c => ofL [c]).map (·.length)).sum + (cs.map fun c => ofL [c]).length * (("" : Str)).length ≤ 16777216 := by
  rw [ones_sum, show (("" : Str)).length = 0 by decide, Nat.mul_zero]
  exact h
theorem dc_it {J : It} {n : Nat} {G : Hp → Prop} {Y : Nat → Hp → V → Hp → Prop} (w : Walk J n G Y) {g : TG} {tt : TT} {tk tv : TE} {vs : List Nat} {σ : L2.St} {H1 : Hp} {D : Addr} {Qd : Hp → Prop} (Pv : Nat → Hp → Prop) (h0 : Pv 0 (upd H1 D (.dK []))) (hG : ∀ i H, i ≤ n → Pv i H → G H)
    (hs : ∀ i x H H', i < n → Pv i H → Y i H x H' → g x (wipe σ vs) H' fun σ2 H2 => wipe σ2 vs = wipe σ vs ∧ tt σ2 H2 fun b H3 =>
      if b = true then tk σ2 H3 fun y H4 => tv σ2 H4 fun z H5 => ∃ kvs k, y = kV k ∧ H5 D = some (.dK kvs) ∧ kvs.length < sizeLine ∧ Pv (i + 1) (upd H5 D (.dK (putK kvs k z))) else Pv (i + 1) H3) (hd : ∀ H, Pv n H → Qd H) :
    ∃ W : Nat → Nat → Hp → Prop, (∃ m, W 0 m (upd H1 D (.dK []))) ∧ ∀ i m H, W i m H →
      (J.stop i H ∧ Qd H) ∨ (J.go i H ∧ ∃ Nx : Hp → Prop, (∀ H', Nx H' → ∃ m', m' < m ∧ W (i + 1) m' H') ∧ ∀ x H', J.yld i H x H' → g x (wipe σ vs) H' fun σ2 H2 => wipe σ2 vs = wipe σ vs ∧ tt σ2 H2 fun b H3 =>
        if b = true then tk σ2 H3 fun y H4 => tv σ2 H4 fun z H5 => ∃ kvs k, y = kV k ∧ H5 D = some (.dK kvs) ∧ kvs.length < sizeLine ∧ Nx (upd H5 D (.dK (putK kvs k z))) else Nx H3) := by
  refine ⟨fun i m H => m = n - i ∧ i ≤ n ∧ Pv i H, ⟨n, by simp, Nat.zero_le _, h0⟩, ?_⟩
  rintro i m H ⟨rfl, hi, p⟩
  have q := hG i H hi p
  by_cases hlt : i < n
  · exact .inr ⟨w.goes i H hlt q, Pv (i + 1), fun H' p' => ⟨n - (i + 1), by omega, rfl, hlt, p'⟩, fun x H' y => hs i x H H' hlt p (w.yields i H x H' hlt q y)⟩
  · have e : i = n := by omega
    subst e
    exact .inl ⟨w.stops H q, hd H p⟩
/-- the dict of these codes to their signs -/
def signD (l : List Nat) : List (Key × V) := l.foldl (fun kvs (c : Nat) => putK kvs (.inl (c : Int)) (.str (ofL [c]))) []
theorem signD_len : ∀ (l : List Nat) (kvs : List (Key × V)), (l.foldl (fun kvs (c : Nat) => putK kvs (.inl (c : Int)) (.str (ofL [c]))) kvs).length ≤ kvs.length + l.length
  | [], kvs => Nat.le_refl _
  | c :: r, kvs => by
    have h1 := signD_len r (putK kvs (.inl (c : Int)) (.str (ofL [c])))
    have h2 := length_putK kvs (.inl (c : Int)) (.str (ofL [c]))
    rw [List.foldl_cons, List.length_cons]
    omega
theorem signD_val : ∀ (l : List Nat) (kvs : List (Key × V)) (i : Int), valV (l.foldl (fun kvs (c : Nat) => putK kvs (.inl (c : Int)) (.str (ofL [c]))) kvs) (.inl i) = if 0 ≤ i ∧ i.toNat ∈ l then some (.str (ofL [i.toNat])) else valV kvs (.inl i)
  | [], kvs, i => by simp
  | c :: r, kvs, i => by
    rw [List.foldl_cons, signD_val r, valV_put]
    by_cases h0 : 0 ≤ i ∧ i.toNat ∈ r
    · rw [if_pos h0, if_pos ⟨h0.1, List.mem_cons_of_mem _ h0.2⟩]
    · rw [if_neg h0]
      by_cases h1 : (Sum.inl i : Key) = Sum.inl (c : Int)
      · have e : i = (c : Int) := Sum.inl.inj h1
        subst e
        rw [if_pos rfl, if_pos ⟨Int.natCast_nonneg c, by rw [Int.toNat_natCast]; exact List.mem_cons_self ..⟩, Int.toNat_natCast]
      · rw [if_neg h1, if_neg]
        rintro ⟨a, b⟩
        rcases List.mem_cons.mp b with e | e
        · exact h1 (by rw [show i = (c : Int) by omega])
        · exact h0 ⟨a, e⟩
theorem sign_get (l : List Nat) (i : Int) : valV (signD l) (.inl i) = if 0 ≤ i ∧ i.toNat ∈ l then some (.str (ofL [i.toNat])) else none := by
  unfold signD
  rw [signD_val]
  rfl
/-- slices of any list -/
def cutA {α : Type} (xs : List α) (lo hi : Option Int) : List α := (xs.drop (HT.sIx xs.length 0 lo)).take (HT.sIx xs.length xs.length hi - HT.sIx xs.length 0 lo)
theorem cutI (ns : List Int) (lo hi : Option Int) : cutV (ns.map V.int) lo hi = (cutA ns lo hi).map V.int := by
  unfold cutV cutA
  rw [List.length_map, List.map_take, List.map_drop]
theorem cutA_len {α : Type} (xs : List α) (lo hi : Option Int) : (cutA xs lo hi).length ≤ xs.length := by
  unfold cutA
  rw [List.length_take, List.length_drop]
  omega
theorem cutA_nat {α : Type} (xs : List α) (i j : Nat) (hi : i ≤ xs.length) (hj : j ≤ xs.length) : cutA xs (some (i : Int)) (some (j : Int)) = (xs.drop i).take (j - i) := by
  unfold cutA
  rw [HT.sIx_nat, HT.sIx_nat, Nat.min_eq_left hi, Nat.min_eq_left hj]
theorem cutA_head {α : Type} (xs : List α) (j : Nat) (hj : j ≤ xs.length) : cutA xs none (some (j : Int)) = xs.take j := by
  unfold cutA
  rw [HT.sIx_nat, Nat.min_eq_left hj]
  show (xs.drop 0).take (j - 0) = _
  rw [List.drop_zero, Nat.sub_zero]
theorem cutA_tail {α : Type} (xs : List α) (j : Nat) (hj : j ≤ xs.length) : cutA xs (some (j : Int)) none = xs.drop j := by
  unfold cutA
  rw [HT.sIx_nat, Nat.min_eq_left hj]
  show (xs.drop j).take (xs.length - j) = _
  rw [List.take_of_length_le (by rw [List.length_drop]; exact Nat.le_refl _)]
theorem cutA_last {α : Type} (xs : List α) (lo : Option Int) (n : Nat) (h : xs.length = n + 1) : cutA xs lo (some (-1)) = cutA xs lo (some (n : Int)) := by
  have e : HT.sIx xs.length xs.length (some (-1)) = HT.sIx xs.length xs.length (some (n : Int)) := by
    rw [HT.sIx_nat, h]
    show (if (-1 : Int) < 0 then ((-1 : Int) + ((n + 1 : Nat) : Int)).toNat else min (-1 : Int).toNat (n + 1)) = min n (n + 1)
    have c : (-1 : Int) < 0 := by decide
    rw [if_pos c]
    omega
  unfold cutA
  rw [e]
theorem cutS_ofL (cs : List Nat) (lo hi : Option Int) : cutS (ofL cs) lo hi = ofL (cutA cs lo hi) := by
  have e : (ofL cs).length = cs.length := ofL_len cs
  have e2 : (ofL cs).cps.toList = cs := tl_ofL cs
  unfold cutS cutA
  rw [e, e2]
  rfl
theorem cutA_mid {α : Type} (xs : List α) (i j : Nat) : cutA xs (some (i : Int)) (some (j : Int)) = (xs.drop i).take (j - i) := by
  unfold cutA
  rw [HT.sIx_nat, HT.sIx_nat]
  refine List.ext_getElem? fun k => ?_
  simp only [List.getElem?_take, List.getElem?_drop]
  by_cases h : i + k < xs.length
  · rw [Nat.min_eq_left (show i ≤ xs.length by omega)]
    by_cases h2 : k < j - i
    · rw [if_pos h2, if_pos (by omega)]
    · rw [if_neg h2, if_neg (by omega)]
  · rw [List.getElem?_eq_none (show xs.length ≤ i + k by omega)]
    by_cases h3 : i ≤ xs.length
    · rw [Nat.min_eq_left h3, List.getElem?_eq_none (show xs.length ≤ i + k by omega)]
      split <;> split <;> rfl
    · rw [Nat.min_eq_right (show xs.length ≤ i by omega), List.getElem?_eq_none (show xs.length ≤ xs.length + k by omega)]
      split <;> split <;> rfl
theorem rep_flat (n : Nat) (x : Int) : (List.replicate n [V.int x]).flatten = (List.replicate n x).map V.int := by
  induction n with
  | zero => rfl
  | succ n ih =>
    rw [List.replicate_succ, List.flatten_cons, ih, List.replicate_succ, List.map_cons]
    rfl
/-- the text that a def's first row sets -/
def litOf : List Stmt → Str
  | .Assign _ (.Constant (.str s) _ _) _ :: _ => s
  | _ => ""
theorem atI_get {b : List Int} {i : Nat} (h : i < b.length) : atI (b.map V.int) (i : Int) = some (.int (b.getD i 0)) := by
  refine atI_nat (j := i) ?_
  rw [List.getElem?_map, List.getElem?_eq_getElem h]
  simp [List.getD_eq_getElem?_getD, List.getElem?_eq_getElem h]
end LB

set_option maxRecDepth 100000
set_option maxHeartbeats 4000000
namespace LB
open PySem PySem.W PySem.Calls PyProof.Rows PySem.HandSPX
/-! ### an own error whose __init__ calls super with an f-string of a name and keeps the name -/
def eA (p1 p2 : Pos) : Arguments := { posonlyargs := [], args := [{ arg := "self", annotation := none, pos := p1 }, { arg := "name", annotation := none, pos := p2 }], vararg := none, kwonlyargs := [], kw_defaults := [], kwarg := none, defaults := [] }
def eB (tx : String) (k0 : Nat) (q1 q2 q3 q4 q5 q6 q7 q8 q9 q10 q11 q12 q13 : Pos) : List Stmt :=
  [.Expr (.Call (.Attribute (.Call (.Name "super" q1) [] [] q2) "__init__" q3) [.JoinedStr [.FormattedValue (.Name "name" q4) (-1) none q5, .Constant (.str tx) k0 q6] q7] [] q8) q9,
   .Assign [.Attribute (.Name "self" q10) "name" q11] (.Name "name" q12) q13]
def eS : Scope := { kind := .function, names := [(PySem.Str.ofString "self", .local), (PySem.Str.ofString "name", .local), (PySem.Str.ofString "__class__", .free), (PySem.Str.ofString "super", .globalImplicit)], isGenerator := false, isCoroutine := false, more := [] }
abbrev veMro : List Value := [.type "ValueError", .type "Exception", .type "BaseException", .type "object"]
/-- what the written part says of the class named n, at C, and of its __init__, at fI -/
structure Oor (K : Frag) (mg : Str → Option Value) (prog : Program) (n : Str) (C fI cc cda : Addr) : Prop where
  gC : mg n = some (.ref C)
  cls : ∃ nm q N bs bm sn sub ab col dd k0 k1 k2 k3 k5, K.lookup C = some (excClassObj nm q C N bs bm true sn sub ab col dd k0 k1 k2 k3 k5 "ValueError.__new__") ∧ refsVE bm = true
  sa : findIn K (.ref C) "__setattr__" = some (some (.builtin "object.__setattr__"))
  ga : findIn K (.ref C) "__getattribute__" = some (some (.builtin "BaseException.__getattribute__"))
  gg : findIn K (.ref C) "__getattr__" = some none
  noN : findIn K (.ref C) "name" = some none
  iC : findIn K (.ref C) "__init__" = some (some (.ref fI))
  tC : typeIn K (.ref fI) = some (.type "function")
  kC : keepIn K (.ref C) = true
  exC : subIn K (.ref C) (.type "BaseException") = some true
  veC : subIn K (.ref C) (.type "ValueError") = some true
  tyC : typeIn K (.ref C) = some (.type "type")
  hdC : hasDictIn K C = true
  me : mroIn K C (.ref C) = some true
  up : ks_superIn K C C "__init__" = some (some (.builtin "ValueError.__init__"))
  made : excInitIn K C veMro "ValueError.__new__" = true
  op : nsIn K cStatics "thirdparty.any" = some none
  mgS : mg "super" = none
  top : (prog.main.scope.names.lookup ("super" : Str)).isSome = false
  cell : ∃ (cl : Value) (cld : Option Addr) (csl : Array (Option Value)), K.lookup cc = some ⟨cl, cld, .cell (some (.ref C)), csl⟩
  code : ∃ (ccl : Value) (cdd : Option Addr) (vs : Array Value) (ccs : Array (Option Value)) (file : Str) (tf : Tok), K.lookup cda = some ⟨ccl, cdd, .fields vs, ccs⟩ ∧ vs[2]? = some (.str file tf) ∧ ((prog.main.file : Str) == file) = true
  fn : ∃ (oc : Value) (od : Option Addr) (q : Str) (doc pm : Value) (an : Option Addr) (ct : Value) (osl : Array (Option Value)) (tx : String) (k0 : Nat) (p1 p2 q1 q2 q3 q4 q5 q6 q7 q8 q9 q10 q11 q12 q13 : Pos),
    K.lookup fI = some ⟨oc, od, .func (ksFn "__init__" q (eA p1 p2) (eB tx k0 q1 q2 q3 q4 q5 q6 q7 q8 q9 q10 q11 q12 q13) eS .none .none doc pm an (.ref cda) ct cc), osl⟩ ∧ codeIn K (.ref cda) q = true ∧ (Str.ofString tx).length ≤ 1000 ∧ (q3.endLine == q8.line) = true
/-- what __init__ leaves of a fresh error at x -/
structure ErrEnd (h h' : Heap) (x C dx : Addr) (v : Value) : Prop where
  keep : ∀ b o, b ≠ x → h.get? b = some o → h'.get? b = some o
  obj : ∃ t1 : Addr, h'.get? x = some { cls := .ref C, dict := some dx, data := .fields #[.ref t1, .none, .none, .none, .bool false, .none] }
  dbig : h.objs.size ≤ dx
  dne : dx ≠ x
  ns : h'.Ns1 dx (fun y => if y = "name" then some v else none)
section
variable {prog : Program} {w : World} {A : Around} {R : Result → Shared → Prop} {s : Shared} {K : Frag} {mg : Str → Option Value} {n : Str} {C fI cc cda : Addr}
theorem err_init (T : Oor K mg prog n C fI cc cda) {base : Heap} {x t0 : Addr} {z : Str} {zt : Tok} (kb : K.In base) (gb : base.Ns mainGlobals mg) (bb : ∃ mb, base.Ns builtinsNs mb ∧ ∀ y : Str, y ≠ "__name__" → mb y = bootBuiltins y)
    (bk : ∀ b o, base.get? b = some o → s.heap.get? b = some o) (bsz : base.objs.size ≤ s.heap.objs.size) (nx : base.get? x = none) (lim : s.heap.NoLimit) (hx : s.heap.get? x = some (excO C t0)) (hz : z.length ≤ 1000) (room : A.depth < recursionLimit)
    (hq : ∀ h' tk dx zt', ErrEnd s.heap h' x C dx (.str z zt') → R (.ok (.ret .none)) { s with heap := h', toks := tk }) :
    codeAny (model prog w) A (.call (.ref fI) ⟨[.ref x, .str z zt], []⟩) R s := by
  obtain ⟨oc, od, q, doc, pm, an, ct, osl, tx, k0, p1, p2, q1, q2, q3, q4, q5, q6, q7, q8, q9, q10, q11, q12, q13, ho, hcd, htx, hln⟩ := T.fn
  obtain ⟨nm, qn, N0, bs, bm, sn, sub, ab, col, dd, e0, e1, e2, e3, e5, hC, hbm⟩ := T.cls
  have hcl : clsIn K C = some { name := nm, bases := bs, mro := .ref C :: bm, ns := N0, qualname := qn, hasDict := true, slotNames := sn, subclasses := sub, abstract := ab, collection := col, hasDel := false } := by unfold clsIn; rw [hC] <;> rfl
  obtain ⟨cl, cld, csl, hcell⟩ := T.cell
  obtain ⟨ccl, cdd, vs, ccs, file, tf, hcode, hvs, hfile⟩ := T.code
  obtain ⟨mb, hmb, hboot⟩ := bb
  have X : K.In s.heap := kb.keeps bk
  obtain ⟨hp, g, dr, tk, os⟩ := s
  refine ks_codeAny_call_defAt (fd := ksFn "__init__" q (eA p1 p2) (eB tx k0 q1 q2 q3 q4 q5 q6 q7 q8 q9 q10 q11 q12 q13) eS .none .none doc pm an (.ref cda) ct cc) (body := eB tx k0 q1 q2 q3 q4 q5 q6 q7 q8 q9 q10 q11 q12 q13) (binds := [("self", .ref x), ("name", .str z zt)])
    room (X _ _ ho) rfl lim (codeRec_of X hcd) rfl (BindsTo.of_eq (by first | rfl | with_unfolding_all rfl)) (show ∀ y ∈ eS.names, y.2 ≠ .cell from by decide +kernel) (show ∀ y ∈ [(("self" : Str), Value.ref x), (("name" : Str), Value.str z zt)], eS.names.lookup y.1 = some .local from locs rfl) (fun h₁ hns hk₁ => ?_) rfl rfl rfl
  have X₁ : K.In h₁ := X.keeps hk₁
  have hx₁ := hk₁ _ _ hx
  have hxL : x ≠ hp.objs.size := Nat.ne_of_lt (Heap.lt_size hx)
  have inG : ∀ b o, base.get? b = some o → (hp.hide x).get? b = some o := fun b o e => (Heap.hide_ne hp (fun z => by rw [z, nx] at e; cases e)).trans (bk b o e)
  have kG : K.In (hp.hide x) := kb.keeps inG
  have F₁ : Fr (hp.hide x) hp.objs.size h₁ _ := ⟨hns, fun b o e => hk₁ b o (Heap.of_hide e), Nat.le_of_eq (Heap.hide_size hp x)⟩
  have N₁ : News (hp.hide x) hp.objs.size h₁ [(x, excObj C t0 none .none)] := fun p hp' => by
    have e := List.mem_singleton.mp hp'
    subst e
    exact ⟨hx₁, hxL, Heap.hide_self hp x⟩
  refine ks_wpAt_execs_cons (ks_wpAt_Expr_any ?_)
  refine ks_wpAt_MethodCall (pl := (do return (← importBound _ _).getD true)) ?_ (he := by
    show (do
      let ov ← attributeBase _ _ _ _
      standAt q3.atName
      methodCall _ _ q3 q8 _ ov _ _ _) = _
    simp only [methodCall, methodCallPos, hln, Bool.or_true, if_true, pure_bind]
    rfl)
  refine ks_wpAt_super_base (f := fI) (cc := cda) (by first | rfl | decide +kernel) (by first | rfl | decide +kernel) (by decide +kernel) rfl (X₁ _ _ ho) rfl rfl rfl (X₁ _ _ hcode) rfl hvs hfile T.top ?_
  refine ks_loadName_global rfl (by first | rfl | decide +kernel) (loadGlobal_builtin (gb.keeps fun b o e => F₁.keep b o (inG b o e)) T.mgS (hmb.keeps fun b o e => F₁.keep b o (inG b o e)) ((hboot _ (by decide +kernel)).trans PyProof.Rows.Boot.«super») ⟨rfl, ?_⟩)
  refine wpAny_loadName_free rfl (by first | rfl | decide +kernel) rfl ⟨_, X₁ _ _ hcell, rfl⟩ ?_
  refine wpAny_loadName_local rfl (by first | rfl | decide +kernel) hns (show _ = some (Value.ref x) from by first | rfl | with_unfolding_all rfl | kernel_rfl) ?_
  refine ks_wpAny_isType_cls (X₁ _ _ hC) rfl ⟨rfl, ?_⟩
  refine ks_wpAny_call_super (X₁ _ _ hC) rfl hx₁ rfl (fun c e => nomatch e) (looks_mroIn X₁ T.me) (fun h₂ e₂ k₂ => ?_)
  obtain ⟨F₂, N₂, l₂⟩ := ks_newsPush (s := ⟨h₁, g, dr, tk + 2, os⟩) F₁ N₁ rfl e₂ k₂
  refine kxs_method kxs_ValueError F₂ kG N₂ (List.mem_cons_self ..) (InstAt.of_exc0 N₂ (List.mem_cons_of_mem _ (List.mem_cons_self ..))) T.op T.up T.veC (by decide +kernel) (fun u h₃ F₃ N₃ l₃ => ?_)
  refine kxs_callWith1 N₃ (List.mem_cons_self ..) ?_ (he := rfl) (hplain := rfl)
  show wpAny _ _ (spliced ((false, eval (.JoinedStr [.FormattedValue (.Name "name" q4) (-1) none q5, .Constant (.str tx) k0 q6] q7) (ksEnv q eS hp.objs.size fI (.ref cda) cc)) :: backTo q8 (starEach [] (ksEnv q eS hp.objs.size fI (.ref cda) cc)))) _ _ _
  refine Calls.spliced_cons (wpAny_JoinedStr ?_)
  have so_u : hp.objs.size ≠ x := Ne.symm hxL
  have ux : u ≠ x := fun z => by
    have := l₃ (x, excObj C t0 none .none) (List.mem_cons_of_mem _ (List.mem_cons_self ..))
    rw [z] at this
    exact absurd this (Nat.lt_irrefl _)
  have sx : h₁.objs.size ≠ x := fun z => by
    have := l₂ (x, excObj C t0 none .none) (List.mem_cons_self ..)
    rw [z] at this
    exact absurd this (Nat.lt_irrefl _)
  have U : UpdF x (excObj C t0 none .none) [(u, kxs_mw "ValueError.__init__" x), (h₁.objs.size, ks_superObj C x C), (x, excObj C t0 none .none)] (fun o' => (u, kxs_mw "ValueError.__init__" x) :: (h₁.objs.size, ks_superObj C x C) :: (x, o') :: []) :=
    .tail ux (.tail sx (.head (by simp)))
  show Joins _ _ _ (eval (.FormattedValue (.Name "name" q4) (-1) none q5) (ksEnv q eS hp.objs.size fI (.ref cda) cc) :: evalEach [.Constant (.str tx) k0 q6] (ksEnv q eS hp.objs.size fI (.ref cda) cc)) Str.empty _ _
  have hz2 : z.length ≤ sizeLine := Nat.le_trans hz (by decide)
  have len0 : (Str.empty ++ z).length ≤ sizeLine := by
    have e1 : (Str.empty : Str).length = 0 := rfl
    rw [Str.length_append, e1, sizeLine_eq]
    omega
  refine wpAny_FormattedValue_plain (ESX.ldL (v := .str z zt) F₃.ns (by first | rfl | with_unfolding_all rfl | kernel_rfl) ?_)
  refine wpAny_formatField_str ⟨_, _, rfl, len0, ?_⟩ ⟨_, _, rfl, len0, ?_⟩ hz2
  all_goals
    have e0 : evalEach [.Constant (.str tx) k0 q6] (ksEnv q eS hp.objs.size fI (.ref cda) cc) = [eval (.Constant (.str tx) k0 q6) (ksEnv q eS hp.objs.size fI (.ref cda) cc)] := by first | rfl | simp [evalEach]
    rw [e0]
    have len : (Str.empty ++ z ++ (tx : Str)).length ≤ sizeLine := by
      have e1 : (Str.empty : Str).length = 0 := rfl
      rw [Str.length_append, Str.length_append, e1, sizeLine_eq]
      have := htx
      omega
    refine wpAny_Constant_str ⟨_, _, rfl, len, ?_⟩
    refine ⟨len, Calls.spliced_nil ⟨kxs_at N₃ (List.mem_cons_self ..), ?_⟩⟩
    refine kxs_call F₃ kG N₃ PySem.F.excBase_ValueError T.made (List.mem_cons_self ..) U (by show 1 ≤ sizeLine; decide) (fun t1 h₄ F₄ N₄ l₄ => ?_)
    have hx₄ : h₄.get? x = some (excObj C t1 none .none) := (N₄ (x, excObj C t1 none .none) (by simp)).1
    have X₄ : K.In h₄ := kG.keeps F₄.keep
    refine wpAt_of_wpAny ?_
    refine wpAny_execs_cons (plainObj_wpAny_Assign_Attribute ?_)
    refine ESX.ldL (v := .str z zt) F₄.ns (by first | rfl | with_unfolding_all rfl | kernel_rfl) (ESX.ldL (v := .ref x) F₄.ns (by first | rfl | with_unfolding_all rfl | kernel_rfl) ?_)
    refine set_plain X₄ (ox := excO C t1) (od := none) ⟨hx₄, rfl, rfl, trivial⟩ T.sa ?_
    refine exc_osa X₄ hx₄ hcl (show refsVE (.ref C :: bm) = true from hbm) rfl T.noN (fun h₅ tk₅ dx k₅ dn dne hx₅ hn₅ => ?_)
    show wpAny _ _ (execs _ _) _ _ _
    refine wpAny_execs_nil (hq h₅ tk₅ dx zt ⟨fun b o hb e => k₅ b o hb (F₄.keep b o ((Heap.hide_ne hp hb).trans e)), ⟨t1, hx₅⟩, ?_, dne, hn₅⟩)
    refine Nat.le_trans ?_ dn
    obtain ⟨oL, es, ep, hL, _⟩ := F₄.ns
    exact Nat.le_of_lt (Heap.lt_size hL)
end
end LB

set_option maxRecDepth 100000
set_option maxHeartbeats 4000000
namespace LB
open PySem PySem.W PySem.Calls PyProof.Rows PySem.HandSPX
/-- a made error at e, its own dict at d -/
structure ErrMade (h h' : Heap) (e C d : Addr) (v : Value) : Prop where
  keep : ∀ b o, h.get? b = some o → h'.get? b = some o
  new : h.objs.size ≤ e
  obj : ∃ oe vs, h'.get? e = some oe ∧ oe.cls = .ref C ∧ oe.dict = some d ∧ oe.data = .fields vs ∧ vs[1]? = some .none
  dbig : h.objs.size ≤ d
  dne : d ≠ e
  ns : h'.Ns1 d (fun y => if y = "name" then some v else none)
section
variable {prog : Program} {w : World} {A : Around} {R : Result → Shared → Prop} {s : Shared} {K : Frag} {mg : Str → Option Value} {n : Str} {C fI cc cda : Addr}
theorem err_made (T : Oor K mg prog n C fI cc cda) {base : Heap} {z : Str} {zt : Tok} (kb : K.In base) (gb : base.Ns mainGlobals mg) (bb : ∃ mb, base.Ns builtinsNs mb ∧ ∀ y : Str, y ≠ "__name__" → mb y = bootBuiltins y)
    (bk : ∀ b o, base.get? b = some o → s.heap.get? b = some o) (bsz : base.objs.size ≤ s.heap.objs.size) (lim : s.heap.NoLimit) (hz : z.length ≤ 1000) (room : A.depth + 1 < recursionLimit)
    (hq : ∀ h' tk e d zt', ErrMade s.heap h' e C d (.str z zt') → R (.ok (.ret (.ref e))) { s with heap := h', toks := tk }) :
    codeAny (model prog w) A (.call (.ref C) ⟨[.str z zt], []⟩) R s := by
  obtain ⟨nm, q, N, bs, bm, sn, sub, ab, col, dd, k0, k1, k2, k3, k5, hC, hbm⟩ := T.cls
  obtain ⟨hp, g, dr, tk, os⟩ := s
  have X : K.In hp := kb.keeps bk
  have k : ∀ b o, hp.get? b = some o → ((hp.push (kdv_tup [.str z zt])).push (excO C hp.objs.size)).get? b = some o := fun b o e => Heap.get?_push_of_some _ (Heap.get?_push_of_some _ e)
  have hget : ((hp.push (kdv_tup [.str z zt])).push (excO C hp.objs.size)).get? (hp.objs.size + 1) = some (excO C hp.objs.size) := by heap_get
  have nx : base.get? (hp.objs.size + 1) = none := Heap.get?_none_of_le (Nat.le_trans bsz (Nat.le_succ _))
  refine call_own PySem.F.excBase_ValueError (fun Y => refsVE_contains Y bm hbm) (X _ _ hC) (looks_findIn X T.iC) (fun self => bind_fn X self T.tC) (by show 1 ≤ sizeLine; decide) ?_
  refine err_init (s := ⟨(hp.push (kdv_tup [.str z zt])).push (excO C hp.objs.size), g, dr, tk, os⟩) T kb gb bb (fun b o e => k b o (bk b o e)) (Nat.le_trans (show base.objs.size ≤ hp.objs.size from bsz) (by simp only [Heap.size_push]; omega)) nx (lim.keeps k) hget hz ?_ fun h' tk' dx zt' W => ?_
  · show A.depth + 1 < recursionLimit
    exact room
  · obtain ⟨t1, hx⟩ := W.obj
    have old : ∀ b o, hp.get? b = some o → h'.get? b = some o := fun b o e => W.keep b o (Nat.ne_of_lt (Nat.lt_succ_of_lt (Heap.lt_size e))) (k b o e)
    have dn : hp.objs.size ≤ dx := by
      have y := W.dbig
      simp only [Heap.size_push] at y
      omega
    exact ⟨rfl, hq h' tk' (hp.objs.size + 1) dx zt' ⟨old, Nat.le_succ _, ⟨_, _, hx, rfl, rfl, rfl, rfl⟩, dn, W.dne, W.ns⟩⟩
end
end LB
namespace LB
open PySem PySem.Spec PyProof.Rows L2
theorem relO_name {v : V} {v' : Value} (r : RelV v v') (f : Str) : RelO (List.lookup f [(("name" : Str), v)]) (if f = "name" then some v' else none) := by
  by_cases hw : f = "name"
  · subst hw
    rw [if_pos rfl]
    have q : List.lookup ("name" : Str) [(("name" : Str), v)] = some v := by simp [List.lookup]
    rw [q]
    exact r
  · rw [if_neg hw]
    have qw : (f == ("name" : Str)) = false := by simpa using hw
    have q2 : List.lookup f [(("name" : Str), v)] = none := by simp [List.lookup, qw]
    rw [q2]
    trivial
section
variable {X : Cx} {n : Str} {C fI cc cda : Addr}
/-- Err(e), e a text of at most 1000 signs -/
def tMkErr (C : Addr) (ta : TA) : L2.St → Hp → XK → Prop := fun σ H Q => ta σ H fun vs H1 => ∃ z : Str, vs = [.str z] ∧ z.length ≤ 1000 ∧ ∀ d, H1 d = none → Q (.ref C) (some d) (upd H1 d (.xd [(("name" : Str), .str z)]))
theorem pmk_err {a : Expr} {ta : TA} {p pos : Pos} {k : Nat} (T : Oor X.K X.mg X.prog n C fI cc cda) (hr : Room k X.A) (ha : PA X [a] ta) (hg : Gl X n) (hd : (n == ("__debug__" : Str)) = false)
    (he : starEach (a :: []) X.env = (false, eval a X.env) :: starEach [] X.env := by rfl) (hpl : (backTo pos (starEach [] X.env)).any (·.1) = false := by rfl) :
    PMk X (.Call (.Name n p) [a] [] pos) (tMkErr C ta) := by
  intro pins s σ H Q I h
  refine wpAny_Call_Name_kw (ld_glob I hg T.gC ?_ hd)
  refine PySem.W.callWith_K (h₀ := X.base) I.ok.mod.kin T.kC (thn (ha.run pos pins s σ H _ I h) fun us s1 hh => ?_) he hpl
  obtain ⟨vs, H1, I1, r1, z, ev, hz, q1⟩ := hh
  subst ev
  refine ⟨I1.kIn, ?_⟩
  cases r1 with
  | cons rv rn =>
    rename_i v' us'
    cases rn
    obtain ⟨zt, rfl⟩ := rv
    show wpAny _ _ (call (.ref C) [.str z zt]) _ _ _
    have hlim := I1.nolimit
    have kin := I1.ok.mod
    have bk := I1.bk
    have bsz : X.base.objs.size ≤ s1.heap.objs.size := Nat.le_trans I1.ok.bsz I1.sz
    obtain ⟨hp, g, dr, tk, os⟩ := s1
    obtain ⟨m1, m2, m3, m4⟩ := kin
    refine wpAny_call (err_made T m1 m2 m3 bk bsz hlim hz (by have := hr.dp; omega) fun h' tk' e d zt' M => ?_)
    show MkP X pins σ Q (.ref e) ⟨h', g, dr, tk', os⟩
    obtain ⟨oe, fv, hoe, hc, hd, hdat, h1⟩ := M.obj
    have hns := M.ns
    obtain ⟨G', g1, g2⟩ := restrict h' fun b => decide (b ≠ e)
    have gk : ∀ b, b ≠ e → G'.get? b = h'.get? b := fun b hb => g1 b (decide_eq_true hb)
    have ge : G'.get? e = none := g2 e (by simp)
    have old : ∀ b o, hp.get? b = some o → G'.get? b = some o := fun b o q => (gk b (Nat.ne_of_lt (Nat.lt_of_lt_of_le (Heap.lt_size q) M.new))).trans (M.keep b o q)
    have ob : ObjOk X.prog X.w (upd H1 d (.xd [(("name" : Str), .str z)])) G' d (.xd [(("name" : Str), .str z)]) :=
      ⟨_, hns.at (fun o q => (gk d M.dne).trans q), fun f => relO_name (v := .str z) (v' := .str z zt') ⟨zt', rfl⟩ f⟩
    have J : Inv X pins σ (upd H1 d (.xd [(("name" : Str), .str z)])) ⟨G', g, dr, tk', os⟩ := I1.laid (t' := tk') old M.dbig ob
    refine ⟨e, oe, fv, ⟨G', g, dr, tk', os⟩, _, .ref C, some d, rfl, J, fun b o q => ?_, ge, hoe, ⟨hc, hd⟩, hdat, h1, ?_, rfl, I1.bare, raises_own T.exC T.tyC, q1 d (I1.hok.fresh M.dbig)⟩
    · by_cases hb : b = e
      · have q' : G'.get? b = some o := q
        rw [hb, ge] at q'; cases q'
      · exact (gk b hb).symm.trans q
    · rw [upd_ne (Ne.symm M.dne)]
      exact I1.hok.fresh M.new
/-- raise Err(e) -/
def tRaiseErr (C : Addr) (W : WX) (ta : TA) : TS := fun _ σ H => tMkErr C ta σ H fun cls d H' => W cls d σ H'
theorem ps_raiseErr {a : Expr} {ta : TA} {W : WX} {p pos pos2 : Pos} {k : Nat} (hc : X.calm = true) (T : Oor X.K X.mg X.prog n C fI cc cda) (hr : Room k X.A) (tk : Takes X W) (ha : PA X [a] ta) (hg : Gl X n) (hd : (n == ("__debug__" : Str)) = false)
    (he : starEach (a :: []) X.env = (false, eval a X.env) :: starEach [] X.env := by rfl) (hpl : (backTo pos (starEach [] X.env)).any (·.1) = false := by rfl) :
    PS X (.Raise (some (.Call (.Name n p) [a] [] pos)) none pos2) (tRaiseErr C W ta) := ps_raise hc tk (pmk_err T hr ha hg hd he hpl)
/-- e.name, e the error that the suite holds (at a; its class cls, its dict d) -/
def tErrName (C : Addr) (a : Addr) (cls : Value) (d : Option Addr) (te : TE) : TE := fun σ H Q => te σ H fun x H1 => x = .ref a ∧ cls = .ref C ∧ ∃ (dd : Addr) (v : V), d = some dd ∧ H1 dd = some (.xd [(("name" : Str), v)]) ∧ Q v H1
theorem pe_errName {a : Addr} {oe : Obj} {cls : Value} {d : Option Addr} {pn : List (Addr × Obj)} {e : Expr} {te : TE} {pos : Pos} (T : Oor X.K X.mg X.prog n C fI cc cda) (hz : Zc cls d oe) (hf : ∃ vs, oe.data = .fields vs) (he : PE (X.suite a ((a, oe) :: pn)) e te)
    (hb : attributeBase e "name" X.env (eval e X.env) = eval e X.env := by rfl) :
    PE (X.suite a ((a, oe) :: pn)) (.Attribute e "name" pos) (tErrName C a cls d te) := by
  refine ⟨fun pins s σ H Q I h => ?_⟩
  refine attr_of hb (thn (he.run pins s σ H _ I h) fun u s1 hh => ?_)
  obtain ⟨x, H1, I1, rx, ex, ec, dd, v, ed, ea, q⟩ := hh
  subst ex
  obtain rfl : u = Value.ref a := rx
  subst ec
  subst ed
  obtain ⟨ha, _⟩ := I1.pin (a, oe) (List.mem_append_left _ List.mem_cons_self)
  obtain ⟨vs, hd⟩ := hf
  have hx : ObjOk X.prog X.w H1 s1.heap dd (.xd [(("name" : Str), v)]) := I1.hok dd _ ea
  obtain ⟨mA, hns, hr⟩ := hx
  obtain ⟨od, ho, hl⟩ := lookIn_ns hns
  have l : List.lookup ("name" : Str) [(("name" : Str), v)] = some v := by simp [List.lookup]
  obtain ⟨u, hu, ru⟩ := RelO.some_of (v := v) (o := mA "name") (by rw [← l]; exact hr "name")
  have J : PySem.W.InstAt s1.heap a oe C (some od) := ⟨ha, hz.1, by unfold PySem.W.notCls; rw [hd] <;> rfl, by rw [hz.2]; exact ho⟩
  exact HandSPX.exc_get I1.kIn J T.ga T.gg T.exC (PySem.W.findObj_own T.hdC T.noN rfl (by rw [hl, hu])) (handed_of ru) ⟨v, H1, I1.tok _, ru, q⟩
/-- isinstance(e, D), e such an error, D a class: told of K -/
structure IsF (K : PySem.W.Frag) (C : Addr) : Prop where
  ha : PySem.W.findIn K (.ref C) "__class__" = some (some (.builtin "object.__class__"))
  hn : PySem.W.specialIn K (.builtin "object.__class__") "__get__" = some (some (.builtin "getset_descriptor.__get__"))
  ht : PySem.W.takesIn K (.builtin "object.__class__") = some true
  hm : PySem.W.mroIn K C (.type "object") = some true
def rIsErr (K : PySem.W.Frag) (C a : Addr) (cls : Value) (d : Option Addr) : List V → Hp → VK → Prop := fun xs H Q => ∃ (D dd : Addr) (b : Bool) (fs : List (Str × V)), xs = [.ref a, .ref D] ∧ cls = .ref C ∧ d = some dd ∧ PySem.W.kitOne K (.ref C) (.ref D) = some b ∧ H dd = some (.xd fs) ∧ Q (.bl b) H
theorem call_isErr {a : Addr} {cls : Value} {d : Option Addr} {oe : Obj} {pn : List (Addr × Obj)} (T : Oor X.K X.mg X.prog n C fI cc cda) (F : IsF X.K C) (hz : Zc cls d oe) (hf : ∃ vs, oe.data = .fields vs) : CallR (X.suite a ((a, oe) :: pn)) (.builtin "isinstance") (rIsErr X.K C a cls d) := by
  intro pins s σ H xs us Q I r h
  obtain ⟨D, dd, b, fs, rfl, rfl, rfl, e, ea, q⟩ := h
  match us, r with
  | _, .cons rx (.cons rt .nil) =>
    cases rx
    cases rt
    obtain ⟨hget, _⟩ := I.pin (a, oe) (List.mem_append.mpr (.inl List.mem_cons_self))
    obtain ⟨vs, hv⟩ := hf
    have hx : ObjOk X.prog X.w H s.heap dd (.xd fs) := I.hok dd _ ea
    obtain ⟨mA, hns, hr⟩ := hx
    obtain ⟨od, ho, hl⟩ := lookIn_ns hns
    have J : PySem.W.InstAt s.heap a oe C (some od) := ⟨hget, hz.1, by unfold PySem.W.notCls; rw [hv] <;> rfl, by rw [hz.2]; exact ho⟩
    obtain ⟨cd, hcd, _⟩ := PySem.W.any_some T.hdC
    exact PySem.W.kia_one (PySem.W.kitx_exc (od := some od) (ox := oe) (by rw [hcd]; rfl) T.ga T.gg T.exC F.ha F.hn F.ht F.hm) I.kIn J e (fun z => nomatch z) fun tk => ⟨.bl b, H, I.kept (t' := tk) fun _ _ z => z, rfl, q⟩
end
end LB

set_option maxRecDepth 100000
set_option maxHeartbeats 2000000
namespace LB
open PySem PySem.Spec PyProof.Rows L2
/-! ### what is never reached; promises of defs that raise nothing here -/
def tsNo : TS := fun _ _ _ => False
theorem pss_no {X : Cx} {st : List Stmt} : PSs X st tsNo := ⟨fun _ _ _ _ _ _ h => h.elim⟩
theorem ps_no {X : Cx} {st : Stmt} : PS X st tsNo := ⟨fun _ _ _ _ _ _ h => h.elim⟩
theorem pe_no {X : Cx} {e : PySem.Expr} : PE X e (fun _ _ _ => False) := ⟨fun _ _ _ _ _ _ h => h.elim⟩
theorem pg_tupK {X : Cx} {K : PySem.W.Frag} {pos : Pos} {es : List PySem.Expr} {k : Nat} {t : TGs} {n : Nat} (hK : X.K = K) (hc : X.calm = true) (h : PGs X es t) (h1 : (assignEach es X.env).length = n := by rfl) (h2 : List.findIdx? (fun x => x.fst) (assignEach es X.env) = none := by rfl) :
    PG X (.Tuple es k pos) (gTup K n t) := by
  subst hK
  exact pg_tup hc h h1 h2
section
variable {P : Program} {w : World} {K : PySem.W.Frag} {mg : Str → Option Value} {base : Heap} {k : Nat} {f : Addr} {fd : FuncData} {ps : List Str} {sp sp' : Sp}
theorem fn_calm (F : FnOk P w K mg base (L2.CX P w) k f fd ps sp) (h : ∀ vs H Q E, sp' vs H Q E → sp vs H Q (fun _ _ _ => False)) : FnOk P w K mg base CX0 k f fd ps sp' :=
  ⟨fun vs H Q E q => F.len vs H Q _ (h _ _ _ _ q), fun A outer s H args us vs Q E hr he hb hv hs => codeAny_mono (F.run A outer s H args us vs Q _ hr he hb hv (h _ _ _ _ hs)) fun r s' z => by
    match r, z with
    | .ok (.ret u), z => exact z
    | .error e, ⟨_, _, _, _, _, _, _, _, _, _, _, _, z⟩ => exact z.elim⟩
end
end LB

set_option maxRecDepth 100000
set_option maxHeartbeats 4000000
namespace LB
open PySem PySem.Spec PyProof.Rows L2
/-! ### C(e, ..) and o.m(e, ..) in a body whose handlers know the slots -/
section
variable {X : Cx} {CX : CXT} {k : Nat} {f C : Addr} {fd : FuncData} {ps : List Str} {sp : Sp} {E : L2.St → XK} {x m : Str} {p pos apos : Pos} {e o : Expr} {es : List Expr} {ta : TE} {t : TA}
theorem makeS {pins : List (Addr × Obj)} {σ : L2.St} {H : Hp} {s : Shared} {Q : VK} {us : List Value} {vs : List V} {E1 : XK} (M : Mk X.K C f) (F : FnOk X.prog X.w X.K X.mg X.base CX k f fd ps sp) (room : Room (k + 1) X.A) (bn : Binds X.K fd ps []) (go : PassesAt CX X σ E1)
    (I : Inv X pins σ H s) (r : Vals vs us) (want : ∀ x dx, H x = none → H dx = none → dx ≠ x → sp (.ref x :: vs) (upd (upd H dx (.own x)) x (.ins C dx [])) (fun v H2 => v = .non ∧ Q (.ref x) H2) E1) : wpAny (model X.prog X.w) X.A (call (.ref C) us) (EP X pins σ Q) X.xe s := by
  have w1 := want (s.heap.objs.size + 1) s.heap.objs.size (I.hok.fresh (Nat.le_succ _)) (I.hok.fresh (Nat.le_refl _)) (Nat.ne_of_lt (Nat.lt_succ_self _))
  have J := Inv.made (C := C) I
  have rr : Vals (V.ref (s.heap.objs.size + 1) :: vs) (Value.ref (s.heap.objs.size + 1) :: us) := .cons rfl r
  have ln : (Value.ref (s.heap.objs.size + 1) :: us).length = ps.length := rr.length ▸ F.len _ _ _ _ w1
  have b := bn _ (Value.ref (s.heap.objs.size + 1) :: us) J.kIn (by rw [List.append_nil]; exact ln)
  rw [List.append_nil] at b
  refine wpAny_call (make_map (f := f) I.kIn M.makes M.init (beq_iff_eq.mp M.fn) (codeAny_mono
    (F.run _ X.stack _ _ ⟨Value.ref (s.heap.objs.size + 1) :: us, []⟩ (Value.ref (s.heap.objs.size + 1) :: us) _ _ E1 (room.make C us []) (J.env0.make C us []) b rr w1) fun res s' h => ?_))
  match res, h with
  | .error e, h => exact go pins _ _ e s' J h
  | .ok (.ret u), h =>
    obtain ⟨v, H', J2, rv, ev, q3⟩ := J.after h
    subst ev
    exact ⟨rv, V.ref (s.heap.objs.size + 1), H', J2, rfl, q3⟩
  | .ok .next, h => exact False.elim h
  | .ok .brk, h => exact False.elim h
  | .ok .cont, h => exact False.elim h
def tMakeS (C : Addr) (sp : Sp) (E : L2.St → XK) (t : TA) : TE := fun σ H Q => t σ H fun vs H1 => ∀ x dx, H1 x = none → H1 dx = none → dx ≠ x → sp (.ref x :: vs) (upd (upd H1 dx (.own x)) x (.ins C dx [])) (fun v H2 => v = .non ∧ Q (.ref x) H2) (E σ)
theorem pe_makeS (M : Mk X.K C f) (F : FnOk X.prog X.w X.K X.mg X.base CX k f fd ps sp) (hr : Room (k + 1) X.A) (hg : Gl X x) (hm : X.mg x = some (.ref C)) (hb : Binds X.K fd ps []) (hx : ∀ σ, PassesAt CX X σ (E σ)) (ha : PA X (e :: es) t)
    (hdb : (x == ("__debug__" : Str)) = false := by decide) (he : starEach (e :: es) X.env = (false, eval e X.env) :: starEach es X.env := by rfl) (hpl : (backTo pos (starEach es X.env)).any (·.1) = false := by rfl) :
    PE X (.Call (.Name x p) (e :: es) [] pos) (tMakeS C sp E t) :=
  ⟨fun pins s σ H Q I h => wpAny_Call_Name_kw (ld_glob I hg hm (PySem.W.callWith_K (h₀ := X.base) I.ok.mod.kin M.kp (thn (ha.run pos pins s σ H _ I h) fun _ _ ⟨_, _, J, r, q⟩ => ⟨J.kIn, makeS M F hr hb (hx σ) J r q⟩) he hpl) hdb)⟩
def tMethT (C : Addr) (m : Str) (sp : Sp) (E : L2.St → XK) (ta : TE) (t : TA) : TE := fun σ H Q => ta σ H fun x H1 => ∃ a dx fs, x = .ref a ∧ H1 a = some (.ins C dx fs) ∧ fs.lookup m = none ∧ t σ H1 fun vs H2 => sp (x :: vs) H2 Q (E σ)
theorem pe_methT {pl : Sem Bool} (he : PE X o ta) (c : Cls X.K C) (hm : Meth X.K C m f) (F : FnOk X.prog X.w X.K X.mg X.base CX k f fd ps sp) (hr : Room k X.A) (hb : Binds X.K fd ps []) (hx : ∀ σ, PassesAt CX X σ (E σ)) (ha : PA X (e :: es) t)
    (hst : starEach (e :: es) X.env = (false, eval e X.env) :: starEach es X.env := by rfl) (hpl : (backTo pos (starEach es X.env)).any (·.1) = false := by rfl)
    (ht : eval (.Call (.Attribute o m apos) (e :: es) [] pos) X.env = (do
      let ov ← eval o X.env
      standAt apos.atName
      let (f, first) ← holding [ov] (getMethod ov m pl)
      callWith pos f first (backTo pos (starEach (e :: es) X.env)) (backToKw pos (keywordEach [] X.env))) := by rfl) : PE X (.Call (.Attribute o m apos) (e :: es) [] pos) (tMethT C m sp E ta t) :=
  ⟨fun pins s σ H Q I h => PySem.W.methodCall_KW (pl := pl) (thn (he.run pins s σ H _ I h) fun u s1 ⟨y, H1, J, ry, a, dx, fs, ey, ea, l, q⟩ => by
    subst ey
    cases (show u = Value.ref a from ry)
    exact getmeth_ok J ea c hm l (PySem.W.callWith_K (first := [.ref a]) (h₀ := X.base) J.ok.mod.kin hm.kp (thn (ha.run pos pins s1 σ H1 _ J q) fun us s2 ⟨vs, H2, J2, r, q2⟩ => ⟨J2.kIn, run_fnS (us := .ref a :: us) (vs := .ref a :: vs) F hr hb (hx σ) J2 (.cons rfl r) q2⟩) hst hpl)) ht⟩
end
end LB

set_option maxRecDepth 100000
set_option maxHeartbeats 4000000
namespace LB
open PySem PySem.Spec PyProof.Rows L2
/-! ### several except clauses, with names or without -/
/-- a clause: its class, the slot of its name, what its suite does -/
abbrev Clause := Value × Option Nat × (Addr → Value → Option Addr → TS)
def offE (D : Ends) (i : Nat) : Ends := { nx := fun σ H => D.nx (σ.set i none) H, rt := D.rt, bk := fun σ H => D.bk (σ.set i none) H, ct := fun σ H => D.ct (σ.set i none) H }
def suiteT (o : Option Nat) (ts : TS) (a : Addr) (D : Ends) (σ : L2.St) (H : Hp) : Prop :=
  match o with
  | none => ts D σ H
  | some i => ts (offE D i) (σ.set i (some (.ref a))) H
def wAny (K : PySem.W.Frag) (Wout : WX) (D : Ends) : List Clause → WX
  | [] => Wout
  | (c, o, ts) :: r => fun cls d σ H => ∃ b, PySem.W.exmOne K cls c = some b ∧ (b = true → ∀ a, H a = none → suiteT o (ts a cls d) a D σ H) ∧ (b = false → wAny K Wout D r cls d σ H)
inductive HdsA (X : Cx) : List ExceptHandler → List Clause → Prop
  | nil : HdsA X [] []
  | bare {x : Str} {c : Value} {ts : Addr → Value → Option Addr → TS} {b₀ : Stmt} {suite : List Stmt} {np pos' : Pos} {hds : List ExceptHandler} {l : List Clause} (hc : Names X x c)
      (hsu : ∀ (a : Addr) (oe : Obj) (cls : Value) (d : Option Addr) (pn : List (Addr × Obj)), Zc cls d oe → (∃ vs, oe.data = .fields vs) → PSs (X.suite a ((a, oe) :: pn)) (b₀ :: suite) (ts a cls d)) (r : HdsA X hds l) :
      HdsA X (.ExceptHandler (some (.Name x np)) none (b₀ :: suite) pos' :: hds) ((c, none, ts) :: l)
  | named {x n : Str} {i : Nat} {c : Value} {ts : Addr → Value → Option Addr → TS} {b₀ : Stmt} {suite : List Stmt} {np pos' : Pos} {hds : List ExceptHandler} {l : List Clause} (hi : X.N[i]? = some n) (hln : X.env.kindOf n = some .local) (hc : Names X x c)
      (hsu : ∀ (a : Addr) (oe : Obj) (cls : Value) (d : Option Addr) (pn : List (Addr × Obj)), Zc cls d oe → (∃ vs, oe.data = .fields vs) → PSs (X.suite a ((a, oe) :: pn)) (b₀ :: suite) (ts a cls d)) (r : HdsA X hds l) :
      HdsA X (.ExceptHandler (some (.Name x np)) (some n) (b₀ :: suite) pos' :: hds) ((c, some i, ts) :: l)
section
variable {X : Cx} {body : List Stmt} {h₀ : ExceptHandler} {hds : List ExceptHandler} {l : List Clause} {pos : Pos} {tb : WX → TS} {Wout : WX}
theorem ps_try_any (hs : X.stack = X.env :: X.outer) (hf : X.env.frame = some X.env.locals) (hN : X.N.Nodup) (tk : Takes X Wout)
    (hb : ∀ (W : WX) (pn : List (Addr × Obj)) (xe : Value → Shared → Prop), Takes (X.tr pn xe) W → PassesOwn (model X.prog X.w) X.A X.env xe → PSs (X.tr pn xe) body (tb W)) (hh : HdsA X (h₀ :: hds) l) :
    PS X (.Try body (h₀ :: hds) [] [] pos) (fun D σ H => tb (wAny X.K Wout D l) D σ H) := by
  constructor
  intro pins s σ H D I want
  have ok := I.ok
  have fr0 : X.A.frames = some (X.env :: X.outer) := ok.frames.trans (congrArg some hs)
  refine wpAny_Try_except (wpAny_mono ((hb (wAny X.K Wout D l) (X.pn ++ pins)
    (fun e t₁ => wpAny (model X.prog X.w) X.A (noteFrame e X.env) (fun _ t₂ => wpAny (model X.prog X.w) X.A (setFlight e none) (fun _ t₃ => wpAny (model X.prog X.w) X.A (handleBy e X.env (h₀ :: hds)) (SP X pins D) X.xe t₃) X.xe t₂) X.xe t₁)
    (fun u t xx => ?_) PassesOwn.looking).run [] s σ H D (I.toTry _) want) (fun f t z => ?_) fun _ _ z => z)
  rotate_left
  · match f, z with
    | .next, ⟨σ1, H1, J, q⟩ => exact wpAny_execs_nil ⟨σ1, H1, J.ofTry ok, q⟩
    | .brk, ⟨σ1, H1, J, q⟩ => exact ⟨σ1, H1, J.ofTry ok, q⟩
    | .cont, ⟨σ1, H1, J, q⟩ => exact ⟨σ1, H1, J.ofTry ok, q⟩
    | .ret u, ⟨v1, σ1, H1, J, r, q⟩ => exact ⟨v1, σ1, H1, J.ofTry ok, r, q⟩
  obtain ⟨a, B, sI, pins', σ', H', cls, d, rfl, J', nb, up, sky, na, os, ag, wish⟩ := xx
  have J : Inv X pins σ' H' sI := J'.ofTry ok
  have sky2 : Sky B (X.env :: X.outer) a (Zc cls d) X.env.locals t.heap := hs ▸ sky
  show wpAny (model X.prog X.w) X.A (noteFrame (.ref a) X.env) _ _ _
  refine Sky.land Zc.steady fr0 hf sky2 fun h3 fl3 up3 => ?_
  have J3 : Inv X pins σ' H' { t with heap := h3 } := J.landed nb fl3.1 (up.trans up3) os ag
  obtain ⟨oe3, vs3, he3, hz3, hd3⟩ := fl3.there
  have off : a ∉ frs (X.env :: X.outer) := fun hm => by
    obtain ⟨_, o2, e2, no⟩ := fl3.2.2.1.mem hm
    cases he3.symm.trans e2
    exact no _ hd3
  have nL : a ≠ X.env.locals := fun z => off (List.mem_filterMap.mpr ⟨X.env, List.mem_cons_self, by rw [hf, z]⟩)
  have nF : a ∉ X.fs := fun hm => by
    obtain ⟨e, he, q⟩ := List.mem_filterMap.mp hm
    exact off (List.mem_filterMap.mpr ⟨e, List.mem_cons_of_mem _ he, q⟩)
  have S3 := J3.suite he3 hd3 na nL nF
  have go : ∀ {hs2 : List ExceptHandler} {l2 : List Clause}, HdsA X hs2 l2 → wAny X.K Wout D l2 cls d σ' H' → wpAny (model X.prog X.w) X.A (handleBy (.ref a) X.env hs2) (SP X pins D) X.xe { t with heap := h3 } := by
    intro hs2 l2 hk
    induction hk with
    | nil =>
      intro w0
      obtain ⟨k1, k2, k3, oe, vs, T, oT, ts', he, hz, hd, h1, hr⟩ := id fl3
      have fin : wpAny (model X.prog X.w) X.A (setFlight (.ref a) X.env.frame) (fun _ s4 => wpAny (model X.prog X.w) X.A (throw (.ref a) : Sem Flow) (SP X pins D) X.xe s4) X.xe { t with heap := h3 } := by
        rw [hf]
        exact HandSPX.setFlight_upZ fl3 fun h4 hh4 up4 => wpAny_throw (tk _ _ ⟨a, B, sI, pins, σ', H', cls, d, rfl, J, nb, (up.trans up3).trans up4, .inr (.inr (by rw [hs]; exact hh4)), na, os, ag, w0⟩)
      refine wpAny_handleBy_nil ?_
      unfold PySem.passOn
      refine wpAny_bind (wpAny_field he hd h1 ?_)
      rw [if_neg (show ¬ ((Value.ref T == Value.none) = true) by simp)]
      first | exact wpAny_bind (wpAny_pure (wpAny_bind fin)) | exact wpAny_bind fin
    | @bare x c ts b₀ suite np pos' hds2 l3 hc hsu r ih =>
      rintro ⟨b, hb1, yes, no⟩
      have LM := PySem.W.exm_one (M := model X.prog X.w) J3.kIn (show PySem.W.Looks (model X.prog X.w) h3 (typeOf (.ref a)) cls from fun A Q E s k q => wpAny_typeOf_ref (k _ _ he3) (by rw [hz3.1]; exact q)) hb1
      have test : ∀ {Q : Value → Shared → Prop} {E : Value → Shared → Prop}, Q c { t with heap := h3 } → wpAny (model X.prog X.w) (X.A.mark (some (.ref a))) (eval (.Name x np) X.env) Q E { t with heap := h3 } := fun {Q E} q => by
        obtain ⟨hg, hdbg, hm | ⟨hm, hv, hnn⟩⟩ := hc
        · exact ld_glob (X := X.suite a ((a, oe3) :: (X.pn ++ pins))) S3 hg hm q hdbg
        · exact ld_blt (X := X.suite a ((a, oe3) :: (X.pn ++ pins))) S3 hg hm hv q hnn hdbg
      refine wpAny_handleBy_cons (codeAny_handlers_test (test (LM.here ?_))) (by intro q; cases q)
      cases b with
      | false => exact ih (no rfl)
      | true =>
        refine codeAny_handlers_suite (HandSPX.lands_againZ fl3 fun h4 fl4 up4 => ?_)
        have J4 : Inv X pins σ' H' { t with heap := h4 } := J.landed nb fl4.1 ((up.trans up3).trans up4) os ag
        obtain ⟨oe4, vs4, he4, hz4, hd4⟩ := fl4.there
        refine wpAny_mono ((hsu a oe4 cls d (X.pn ++ pins) hz4 ⟨_, hd4⟩).run [] _ _ H' _ (J4.suite he4 hd4 na nL nF) (yes rfl a na)) (fun f s6 z => ?_) fun _ _ z => z.elim
        match f, z with
        | .next, ⟨σ6, H6, S6, q⟩ => exact ⟨_, _, S6.unsuite ok, q⟩
        | .brk, ⟨σ6, H6, S6, q⟩ => exact ⟨_, _, S6.unsuite ok, q⟩
        | .cont, ⟨σ6, H6, S6, q⟩ => exact ⟨_, _, S6.unsuite ok, q⟩
        | .ret u, ⟨v6, σ6, H6, S6, r6, q⟩ => exact ⟨_, _, _, S6.unsuite ok, r6, q⟩
    | @named x n i c ts b₀ suite np pos' hds2 l3 hi hln hc hsu r ih =>
      rintro ⟨b, hb1, yes, no⟩
      have LM := PySem.W.exm_one (M := model X.prog X.w) J3.kIn (show PySem.W.Looks (model X.prog X.w) h3 (typeOf (.ref a)) cls from fun A Q E s k q => wpAny_typeOf_ref (k _ _ he3) (by rw [hz3.1]; exact q)) hb1
      have test : ∀ {Q : Value → Shared → Prop} {E : Value → Shared → Prop}, Q c { t with heap := h3 } → wpAny (model X.prog X.w) (X.A.mark (some (.ref a))) (eval (.Name x np) X.env) Q E { t with heap := h3 } := fun {Q E} q => by
        obtain ⟨hg, hdbg, hm | ⟨hm, hv, hnn⟩⟩ := hc
        · exact ld_glob (X := X.suite a ((a, oe3) :: (X.pn ++ pins))) S3 hg hm q hdbg
        · exact ld_blt (X := X.suite a ((a, oe3) :: (X.pn ++ pins))) S3 hg hm hv q hnn hdbg
      refine wpAny_handleBy_cons (codeAny_handlers_test (test (LM.here ?_))) (by intro q; cases q)
      cases b with
      | false => exact ih (no rfl)
      | true =>
        refine codeAny_handlers_suite_as (HandSPX.lands_againZ fl3 fun h4 fl4 up4 => ?_)
        have J4 : Inv X pins σ' H' { t with heap := h4 } := J.landed nb fl4.1 ((up.trans up3).trans up4) os ag
        obtain ⟨oe4, vs4, he4, hz4, hd4⟩ := fl4.there
        refine store_ok (X := X.suite a ((a, oe4) :: (X.pn ++ pins))) (v := .ref a) (J4.suite he4 hd4 na nL nF) hN hi (.inl hln) rfl (fun s5 S5 => ?_) (.inr hln)
        refine wpAny_mono ((hsu a oe4 cls d (X.pn ++ pins) hz4 ⟨_, hd4⟩).run [] s5 _ H' _ S5 (yes rfl a na)) (fun f s6 z => ?_) fun _ _ z => z.elim
        have gone : ∀ {σ6 : L2.St} {H6 : Hp} {Q : Shared → Prop}, Inv (X.suite a ((a, oe4) :: (X.pn ++ pins))) [] σ6 H6 s6 → (∀ s7, Inv X pins (σ6.set i none) H6 s7 → Q s7) → wpAny (model X.prog X.w) X.A (do bindName X.env n .none; unbindBehindTheSuite X.env n pos') (fun _ s7 => Q s7) X.xe s6 :=
          fun S6 hq => gone_ok (S6.unsuite ok) hN hi hln hq
        match f, z with
        | .next, ⟨σ6, H6, S6, q⟩ => exact gone S6 fun s7 J7 => ⟨_, _, J7, q⟩
        | .brk, ⟨σ6, H6, S6, q⟩ => exact gone S6 fun s7 J7 => ⟨_, _, J7, q⟩
        | .cont, ⟨σ6, H6, S6, q⟩ => exact gone S6 fun s7 J7 => ⟨_, _, J7, q⟩
        | .ret u, ⟨v6, σ6, H6, S6, r6, q⟩ => exact gone S6 fun s7 J7 => ⟨_, _, _, J7, r6, q⟩
  exact go hh wish
end
end LB

set_option maxRecDepth 100000
set_option maxHeartbeats 2000000
namespace LB
open PySem PySem.Spec PyProof.Rows L2
def top (i : Nat) : Stmt := PySem.Challenge.pw_asforetold_k42_cut_on_schedule.main.body.getD i (.Pass ⟨0, 0, 0, 0⟩)
abbrev dsInit : Stmt := inClass (top 11) 0
abbrev dsSize : Stmt := inClass (top 11) 2
abbrev dsRead : Stmt := inClass (top 11) 3
abbrev dsWrite : Stmt := inClass (top 11) 4
abbrev dsFlush : Stmt := inClass (top 11) 5
abbrev dsPend : Stmt := inClass (top 11) 6
abbrev dsCuts : Stmt := inClass (top 11) 7
abbrev dsCut : Stmt := inClass (top 11) 8
abbrev dsSched : Stmt := inClass (top 11) 9
abbrev dsPlace : Stmt := inClass (top 11) 10
abbrev dsMeet : Stmt := inClass (top 11) 11
abbrev sCheckTorn : Stmt := top 12
abbrev sCell : Stmt := top 14
abbrev sDigits : Stmt := top 15
abbrev sDraw : Stmt := top 16
abbrev sLTorn : Stmt := top 17
abbrev sSched : Stmt := top 18
abbrev sDoRaw : Stmt := top 19
abbrev sDo : Stmt := top 20
abbrev sLaw : Stmt := top 21
end LB

set_option maxRecDepth 100000
set_option maxHeartbeats 4000000
namespace LB
open PySem PySem.Spec PyProof.Rows L2
/-! ### the helpers of a law -/
/-- built-ins' names that the module leaves free -/
structure Names (mg : Str → Option Value) : Prop where
  len : mg "len" = none
  range : mg "range" = none
  int : mg "int" = none
  repr : mg "repr" = none
section
variable {P : Program} {w : World} {K : PySem.W.Frag} {mg : Str → Option Value} {base : Heap}
/-- some int comes back -/
def spCellL (K : PySem.W.Frag) : Sp := fun vs H Q _ => ∃ (a : Addr) (ns : List Int) (k : Int), vs = [.ref a, .int k] ∧ SqL K H a (ns.map V.int) ∧ 0 ≤ k ∧ ∀ c : Int, Q (.int c) H
theorem scCell : FnScope ["script", "k"] ["script", "k"] (defScope sCell) := ⟨rfl, rfl, rfl, by decide +kernel, rfl, by decide +kernel, by decide +kernel⟩
theorem ok_cell {f : Addr} {fd : FuncData} (F : Fun K "_law_cell" "_law_cell" sCell f fd) (M : Names mg) : FnOk P w K mg base CX0 1 f fd ["script", "k"] (spCellL K) := by
  refine F.ok scCell (fun vs H Q E h => ?_) (fun cdv A outer s H vs Q E hr h => ?_)
  · obtain ⟨a, ns, k, rfl, _⟩ := h
    rfl
  · obtain ⟨a, ns, k, rfl, hS, h0, q⟩ := h
    refine ⟨_, (pss_cons (ps_if (pt_cmpR op_lt (pv 1) (pe_callB call_len_seq (by rfl) M.len PySem.boot_len (pa_cons (pv 0) pa_nil)) (nomark _)) (pss_one (ps_ret (pe_ix ix_list (pv 0) (pv 1) (fun _ _ => rfl)))) pss_nil)
        (pss_one (ps_ret pe_int))), ?_⟩
    refine ⟨_, rfl, _, rfl, a, _, rfl, .inl hS, _, _, rfl, rfl, _, rfl, ?_⟩
    refine ite2 (fun c => ?_) (fun c => q 0)
    have lt := of_decide_eq_true c
    rw [List.length_map] at lt
    obtain ⟨j, rfl⟩ : ∃ j : Nat, k = (j : Int) := ⟨k.toNat, by omega⟩
    have hj : j < ns.length := by omega
    exact ⟨_, rfl, _, rfl, a, _, _, _, rfl, rfl, hS, atI_nat (v := V.int ns[j]) (by rw [List.getElem?_map, List.getElem?_eq_getElem hj]; rfl), q _⟩
/-- a number of three digits at most -/
def Dig (i : Int) : Prop := 0 ≤ i ∧ i < 1000
/-- a new list of at most 63 * 60 such numbers -/
def spDigits (K : PySem.W.Frag) : Sp := fun vs H Q _ => ∃ (a : Addr) (ns : List Int) (i j : Int), vs = [.ref a, .int i, .int j] ∧ SqL K H a (ns.map V.int) ∧ 0 ≤ i ∧ i ≤ j ∧ j ≤ 63 ∧
  ∀ (ds : List Int) (H' : Hp) (p : Addr), Same H H' → H p = none → H' p = some (.lst (ds.map V.int)) → (∀ d ∈ ds, Dig d) → ds.length ≤ 3780 → Q (.ref p) H'
theorem scDigits : FnScope ["script", "first", "last", "digits", "k", "cell", "turn", "seed"] ["script", "first", "last"] (defScope sDigits) := ⟨rfl, rfl, rfl, by decide +kernel, rfl, by decide +kernel, by decide +kernel⟩
theorem same_upd {H H' : Hp} {p : Addr} {o : HO} (e : Same H H') (n : H p = none) : Same H (upd H' p o) := fun b u q => by
  rw [upd_ne (ne_of_none q n)]
  exact e b u q
theorem dig_more {c : Int} {ds : List Int} (h : ∀ d ∈ ds, Dig d) : ∀ d ∈ ds ++ [c % 1000], Dig d := by
  intro d hd
  rcases List.mem_append.mp hd with h1 | h1
  · exact h d h1
  · rw [List.mem_singleton.mp h1]
    exact ⟨Int.emod_nonneg _ (by decide), Int.emod_lt_of_pos _ (by decide)⟩
theorem lst_more {ds : List Int} {c : Int} : HO.lst (ds.map V.int ++ [V.int c]) = HO.lst ((ds ++ [c]).map V.int) := by rw [List.map_append] <;> rfl
theorem small_line {n : Nat} (h : n ≤ 4000) : n < sizeLine := Nat.lt_of_le_of_lt h (by decide)
theorem ok_digits {f fC : Addr} {fd fdC : FuncData} (F : Fun K "_law_digits" "_law_digits" sDigits f fd) (M : Names mg) (FC : Fun K "_law_cell" "_law_cell" sCell fC fdC) (mCell : mg "_law_cell" = some (.ref fC)) (bCell : Binds K fdC ["script", "k"] []) :
    FnOk P w K mg base CX0 2 f fd ["script", "first", "last"] (spDigits K) := by
  have GCell : FnOk P w K mg base CX0 1 fC fdC ["script", "k"] (spCellL K) := ok_cell FC M
  have kCell := FC.kp
  refine F.ok scDigits (fun vs H Q E h => ?_) (fun cdv A outer s H vs Q E hr h => ?_)
  · obtain ⟨a, ns, i, j, rfl, _⟩ := h
    rfl
  · obtain ⟨a, ns, i, j, rfl, hS, h0, hij, hj, q⟩ := h
    have nd := scDigits.nd
    refine ⟨_, (pss_cons (ps_set (i := 3) nd rfl (Or.inl rfl) (pe_lst pa_nil))
        (pss_cons (ps_for PassesOwn.never rfl (pi_range2 (by rfl) M.range (pa_cons (pv 1) (pa_cons (pv 2) pa_nil))) (pg_name (i := 4) nd rfl (Or.inl rfl)) (pss_cons (ps_set (i := 5) nd rfl (Or.inl rfl) (pe_call GCell (hr.mono (by decide)) rfl mCell kCell bCell .nil pass0 (pa_cons (pv 0) (pa_cons (pv 4) pa_nil))))
        (pss_cons (ps_if (pt_cmpR op_lt (pv 5) pe_int (nomark _)) (pss_one (ps_set (i := 5) nd rfl (Or.inl rfl) (pe_op op_sub pe_int (pe_op op_mul pe_int (pv 5))))) pss_nil)
        (pss_one (ps_if (pt_cmpR op_ge (pv 5) pe_int (nomark _)) (pss_one (ps_for PassesOwn.never rfl (pi_range1 (by rfl) M.range (pa_cons pe_int pa_nil)) (pg_name (i := 6) nd rfl (Or.inl rfl)) (pss_one (ps_if (pt_cmpR op_gt (pv 5) pe_int (nomark _)) (pss_cons (ps_expr (pe_bm PySem.F.plainAttrs_list PySem.F.slot_list_append PySem.F.type_list_append mt_append (pv 3) (pa_cons (pe_op op_mod (pe_callTy call_int1 (by rfl) M.int (by decide +kernel) (pa_cons (pv 5) pa_nil)) pe_int) pa_nil)))
        (pss_one (ps_set (i := 5) nd rfl (Or.inl rfl) (pe_op op_fdiv (pv 5) pe_int)))) pss_nil)))) (pss_cons (ps_set (i := 7) nd rfl (Or.inl rfl) (pe_op op_mod (pe_callTy call_int1 (by rfl) M.int (by decide +kernel) (pa_cons (pe_op op_add (pe_op op_add (pe_op op_mul (pv 5) pe_int) (pe_op op_mul (pv 4) pe_int)) pe_int) pa_nil)) pe_int))
        (pss_one (ps_for PassesOwn.never rfl (pi_range1 (by rfl) M.range (pa_cons pe_int pa_nil)) (pg_name (i := 6) nd rfl (Or.inl rfl)) (pss_cons (ps_set (i := 7) nd rfl (Or.inl rfl) (pe_op op_mod (pe_callTy call_int1 (by rfl) M.int (by decide +kernel) (pa_cons (pe_op op_add (pe_op op_add (pe_op op_mul (pv 7) pe_int) (pe_op op_mul pe_int (pv 6))) pe_int) pa_nil)) pe_int))
        (pss_one (ps_expr (pe_bm PySem.F.plainAttrs_list PySem.F.slot_list_append PySem.F.type_list_append mt_append (pv 3) (pa_cons (pe_op op_mod (pe_callTy call_int1 (by rfl) M.int (by decide +kernel) (pa_cons (pe_op op_fdiv (pv 7) pe_int) pa_nil)) pe_int) pa_nil)))))))))))))
        (pss_one (ps_ret (pv 3))))), ?_⟩
    refine ⟨(by show 0 ≤ sizeLine; decide), fun p hp => ?_⟩
    refine ⟨_, rfl, _, rfl, i, j, rfl, ⟨by omega, by omega, by omega, by omega⟩, ?_⟩
    refine for_range (lo := i) (n := (j - i).toNat) (fun m σ H' => ∃ (ds : List Int) (v4 v5 v6 v7 : Option V), σ = [some (.ref a), some (.int i), some (.int j), some (.ref p), v4, v5, v6, v7] ∧ Same H H' ∧ H' p = some (.lst (ds.map V.int)) ∧ (∀ d ∈ ds, Dig d) ∧ ds.length ≤ 60 * m)
      ⟨[], none, none, none, none, rfl, same_upd (Same.refl H) hp, upd_same, by simp, by simp⟩ ?_ ?_
    · rintro m σ H' hm ⟨ds, v4, v5, v6, v7, rfl, sm, hl, hd, hlen⟩
      refine ⟨_, rfl, _, rfl, a, ns, _, rfl, sm.seq hS, by omega, fun c => ?_⟩
      refine ⟨_, rfl, _, _, rfl, rfl, _, rfl, ?_⟩
      refine ite2 (fun _ => ?_) (fun _ => ?_)
      · refine ⟨_, rfl, _, _, rfl, rfl, .inl ⟨by decide, by decide⟩, _, _, rfl, rfl, ?_⟩
        generalize (1 : Int) - 2 * c = c'
        (refine ⟨_, rfl, _, _, rfl, rfl, _, rfl, ?_⟩
         refine ite2 (fun _ => ?_) (fun _ => ?_)
         · refine ⟨60, rfl, by decide, by decide, for_range (n := 60) (fun t σ H2 => ∃ (ds : List Int) (c : Int) (v6 : Option V), σ = [some (.ref a), some (.int i), some (.int j), some (.ref p), some (.int (i + m)), some (.int c), v6, v7] ∧ Same H H2 ∧ H2 p = some (.lst (ds.map V.int)) ∧ (∀ d ∈ ds, Dig d) ∧ ds.length ≤ 60 * m + t)
             ⟨ds, _, v6, rfl, sm, hl, hd, by omega⟩ ?_ ?_⟩
           · rintro t σ H2 ht ⟨ds, c, v6, rfl, sm, hl, hd, hlen⟩
             refine ⟨_, rfl, _, _, rfl, rfl, _, rfl, ?_⟩
             refine ite2 (fun _ => ?_) (fun _ => ?_)
             · refine ⟨_, rfl, .inl ⟨rfl, _, SqL.of hl⟩, _, rfl, .inl ⟨_, rfl, _, _, rfl, rfl, (by show (0 : Int) < 1000; decide), p, _, _, rfl, rfl, hl, (by rw [List.length_map]; exact small_line (by omega)), ?_⟩⟩
               refine ⟨_, rfl, _, _, rfl, rfl, ⟨by decide, by decide⟩, ?_⟩
               exact ⟨ds ++ [c % 1000], _, _, rfl, same_upd sm hp, upd_same.trans (congrArg some lst_more), dig_more hd, by rw [List.length_append, List.length_singleton]; omega⟩
             · exact ⟨ds, _, _, rfl, sm, hl, hd, by omega⟩
           · rintro σ H2 ⟨ds, c, v6, rfl, sm, hl, hd, hlen⟩
             exact ⟨ds, _, _, _, _, rfl, sm, hl, hd, by omega⟩
         · refine ⟨_, rfl, _, _, rfl, rfl, .inr ⟨by decide, by decide⟩, _, rfl, _, _, rfl, rfl, .inr ⟨by decide, by decide⟩, _, _, rfl, rfl, _, _, rfl, rfl, .inl ⟨_, rfl, _, _, rfl, rfl, (by show (0 : Int) < 2147483399; decide), ?_⟩⟩
           refine ⟨12, rfl, by decide, by decide, for_range (n := 12) (fun t σ H2 => ∃ (ds : List Int) (c : Int) (v6 : Option V) (s7 : Int), σ = [some (.ref a), some (.int i), some (.int j), some (.ref p), some (.int (i + m)), some (.int c), v6, some (.int s7)] ∧ Same H H2 ∧ H2 p = some (.lst (ds.map V.int)) ∧ (∀ d ∈ ds, Dig d) ∧ ds.length ≤ 60 * m + t)
             ⟨ds, _, v6, _, rfl, sm, hl, hd, by omega⟩ ?_ ?_⟩
           · rintro t σ H2 ht ⟨ds, c, v6, s7, rfl, sm, hl, hd, hlen⟩
             refine ⟨_, rfl, _, _, rfl, rfl, .inr ⟨by decide, by decide⟩, _, rfl, _, _, rfl, rfl, .inl ⟨by decide, by decide⟩, _, _, rfl, rfl, _, _, rfl, rfl, .inl ⟨_, rfl, _, _, rfl, rfl, (by show (0 : Int) < 2147483563; decide), ?_⟩⟩
             refine ⟨_, rfl, .inl ⟨rfl, _, SqL.of hl⟩, _, rfl, _, _, rfl, rfl, ⟨by decide, by decide⟩, .inl ⟨_, rfl, _, _, rfl, rfl, (by show (0 : Int) < 1000; decide), p, _, _, rfl, rfl, hl, (by rw [List.length_map]; exact small_line (by omega)), ?_⟩⟩
             exact ⟨ds ++ [_ % 1000], _, _, _, rfl, same_upd sm hp, upd_same.trans (congrArg some lst_more), dig_more hd, by rw [List.length_append, List.length_singleton]; omega⟩
           · rintro σ H2 ⟨ds, c, v6, s7, rfl, sm, hl, hd, hlen⟩
             exact ⟨ds, _, _, _, _, rfl, sm, hl, hd, by omega⟩)
      · (refine ⟨_, rfl, _, _, rfl, rfl, _, rfl, ?_⟩
         refine ite2 (fun _ => ?_) (fun _ => ?_)
         · refine ⟨60, rfl, by decide, by decide, for_range (n := 60) (fun t σ H2 => ∃ (ds : List Int) (c : Int) (v6 : Option V), σ = [some (.ref a), some (.int i), some (.int j), some (.ref p), some (.int (i + m)), some (.int c), v6, v7] ∧ Same H H2 ∧ H2 p = some (.lst (ds.map V.int)) ∧ (∀ d ∈ ds, Dig d) ∧ ds.length ≤ 60 * m + t)
             ⟨ds, _, v6, rfl, sm, hl, hd, by omega⟩ ?_ ?_⟩
           · rintro t σ H2 ht ⟨ds, c, v6, rfl, sm, hl, hd, hlen⟩
             refine ⟨_, rfl, _, _, rfl, rfl, _, rfl, ?_⟩
             refine ite2 (fun _ => ?_) (fun _ => ?_)
             · refine ⟨_, rfl, .inl ⟨rfl, _, SqL.of hl⟩, _, rfl, .inl ⟨_, rfl, _, _, rfl, rfl, (by show (0 : Int) < 1000; decide), p, _, _, rfl, rfl, hl, (by rw [List.length_map]; exact small_line (by omega)), ?_⟩⟩
               refine ⟨_, rfl, _, _, rfl, rfl, ⟨by decide, by decide⟩, ?_⟩
               exact ⟨ds ++ [c % 1000], _, _, rfl, same_upd sm hp, upd_same.trans (congrArg some lst_more), dig_more hd, by rw [List.length_append, List.length_singleton]; omega⟩
             · exact ⟨ds, _, _, rfl, sm, hl, hd, by omega⟩
           · rintro σ H2 ⟨ds, c, v6, rfl, sm, hl, hd, hlen⟩
             exact ⟨ds, _, _, _, _, rfl, sm, hl, hd, by omega⟩
         · refine ⟨_, rfl, _, _, rfl, rfl, .inr ⟨by decide, by decide⟩, _, rfl, _, _, rfl, rfl, .inr ⟨by decide, by decide⟩, _, _, rfl, rfl, _, _, rfl, rfl, .inl ⟨_, rfl, _, _, rfl, rfl, (by show (0 : Int) < 2147483399; decide), ?_⟩⟩
           refine ⟨12, rfl, by decide, by decide, for_range (n := 12) (fun t σ H2 => ∃ (ds : List Int) (c : Int) (v6 : Option V) (s7 : Int), σ = [some (.ref a), some (.int i), some (.int j), some (.ref p), some (.int (i + m)), some (.int c), v6, some (.int s7)] ∧ Same H H2 ∧ H2 p = some (.lst (ds.map V.int)) ∧ (∀ d ∈ ds, Dig d) ∧ ds.length ≤ 60 * m + t)
             ⟨ds, _, v6, _, rfl, sm, hl, hd, by omega⟩ ?_ ?_⟩
           · rintro t σ H2 ht ⟨ds, c, v6, s7, rfl, sm, hl, hd, hlen⟩
             refine ⟨_, rfl, _, _, rfl, rfl, .inr ⟨by decide, by decide⟩, _, rfl, _, _, rfl, rfl, .inl ⟨by decide, by decide⟩, _, _, rfl, rfl, _, _, rfl, rfl, .inl ⟨_, rfl, _, _, rfl, rfl, (by show (0 : Int) < 2147483563; decide), ?_⟩⟩
             refine ⟨_, rfl, .inl ⟨rfl, _, SqL.of hl⟩, _, rfl, _, _, rfl, rfl, ⟨by decide, by decide⟩, .inl ⟨_, rfl, _, _, rfl, rfl, (by show (0 : Int) < 1000; decide), p, _, _, rfl, rfl, hl, (by rw [List.length_map]; exact small_line (by omega)), ?_⟩⟩
             exact ⟨ds ++ [_ % 1000], _, _, _, rfl, same_upd sm hp, upd_same.trans (congrArg some lst_more), dig_more hd, by rw [List.length_append, List.length_singleton]; omega⟩
           · rintro σ H2 ⟨ds, c, v6, s7, rfl, sm, hl, hd, hlen⟩
             exact ⟨ds, _, _, _, _, rfl, sm, hl, hd, by omega⟩)
    · rintro σ H' ⟨ds, v4, v5, v6, v7, rfl, sm, hl, hd, hlen⟩
      exact ⟨_, rfl, q ds H' p sm hp hl hd (by omega)⟩
end
end LB

set_option maxRecDepth 100000
set_option maxHeartbeats 4000000
namespace LB
open PySem PySem.Spec PyProof.Rows L2
/-! ### the box of draws -/
/-- at b: a list of the digits' list and of a place -/
def Box (H : Hp) (b : Addr) : Prop := ∃ (l : Addr) (ds : List Int) (n : Int), H b = some (.lst [.ref l, .int n]) ∧ H l = some (.lst (ds.map V.int)) ∧ b ≠ l ∧ 0 ≤ n ∧ ds.length ≤ 3780
/-- all stands but what is at b, and the list of the digits is the same one -/
structure But (b : Addr) (H H' : Hp) : Prop where
  k : ∀ a o, a ≠ b → H a = some o → H' a = some o
  d : ∀ l n, H b = some (.lst [.ref l, .int n]) → ∃ n' : Int, H' b = some (.lst [.ref l, .int n'])
theorem But.refl (b : Addr) (H : Hp) : But b H H := ⟨fun _ _ _ q => q, fun l n h => ⟨n, h⟩⟩
theorem But.trans {b : Addr} {H H1 H2 : Hp} (x : But b H H1) (y : But b H1 H2) : But b H H2 := ⟨fun a o n q => y.k a o n (x.k a o n q), fun l n h => let ⟨n', h'⟩ := x.d l n h; y.d l n' h'⟩
theorem But.of {b : Addr} {H H' : Hp} (e : Same H H') : But b H H' := ⟨fun a o _ q => e a o q, fun l n h => ⟨n, e _ _ h⟩⟩
theorem But.new {b : Addr} {H H' : Hp} {p : Addr} {o : HO} (x : But b H H') (n : H' p = none) : But b H (upd H' p o) :=
  ⟨fun a u na q => by
    have q' := x.k a u na q
    rw [upd_ne (ne_of_none q' n)]
    exact q', fun l m h => by
    obtain ⟨n', h'⟩ := x.d l m h
    exact ⟨n', by rw [upd_ne (ne_of_none h' n)]; exact h'⟩⟩
theorem But.seqT {K : PySem.W.Frag} {b : Addr} {H H' : Hp} {a : Addr} {xs : List V} (x : But b H H') (ne : ∀ ys, H b ≠ some (.tup ys)) (nf : ∀ o u, H b ≠ some (.frz o u)) (h : SqT K H a xs) : SqT K H' a xs := by
  rcases h with (h | ⟨o, h⟩) | h
  · exact .inl (.inl (x.k a _ (fun z => ne _ (z ▸ h)) h))
  · exact .inl (.inr ⟨o, x.k a _ (fun z => nf _ _ (z ▸ h)) h⟩)
  · exact .inr h
theorem Box.ne {H : Hp} {b : Addr} (B : Box H b) : (∀ ys, H b ≠ some (.tup ys)) ∧ ∀ o u, H b ≠ some (.frz o u) := by
  obtain ⟨l, ds, n, h, _⟩ := B
  rw [h]
  exact ⟨fun ys z => (by cases z), fun o u z => (by cases z)⟩
theorem Box.tup {K : PySem.W.Frag} {b : Addr} {H H' : Hp} {a : Addr} {xs : List V} (B : Box H b) (x : But b H H') (h : SqT K H a xs) : SqT K H' a xs := x.seqT B.ne.1 B.ne.2 h
theorem Box.new {H : Hp} {b p : Addr} {o : HO} (B : Box H b) (n : H p = none) : Box (upd H p o) b := by
  obtain ⟨l, ds, k, h, hl, r⟩ := B
  exact ⟨l, ds, k, by rw [upd_ne (ne_of_none h n)]; exact h, by rw [upd_ne (ne_of_none hl n)]; exact hl, r⟩
section
variable {P : Program} {w : World} {K : PySem.W.Frag} {mg : Str → Option Value} {base : Heap}
def spDraw (K : PySem.W.Frag) : Sp := fun vs H Q _ => ∃ (b : Addr) (m : Int), vs = [.ref b, .int m] ∧ Box H b ∧ 0 < m ∧ ∀ (r : Int) (H' : Hp), 0 ≤ r → r < m → Box H' b → But b H H' → Q (.int r) H'
theorem scDraw : FnScope ["box", "many", "at"] ["box", "many"] (defScope sDraw) := ⟨rfl, rfl, rfl, by decide +kernel, rfl, by decide +kernel, by decide +kernel⟩
theorem ok_draw {f : Addr} {fd : FuncData} (F : Fun K "_law_draw" "_law_draw" sDraw f fd) (M : Names mg) : FnOk P w K mg base CX0 1 f fd ["box", "many"] (spDraw K) := by
  refine F.ok scDraw (fun vs H Q E h => ?_) (fun cdv A outer s H vs Q E hr h => ?_)
  · obtain ⟨b, m, rfl, _⟩ := h
    rfl
  · obtain ⟨b, m, rfl, ⟨l, ds, n, hb, hl, ne, h0, hlen⟩, hm, q⟩ := h
    have nd := scDraw.nd
    refine ⟨_, (pss_cons (ps_set (i := 2) nd rfl (Or.inl rfl) (pe_ix ix_list (pv 0) pe_int (fun _ _ => rfl)))
        (pss_cons (ps_asg (pe_op op_add (pv 2) pe_int) (pg_sub (pv 0) pe_int set_list))
        (pss_cons (ps_if (pt_cmpR op_lt (pv 2) (pe_callB call_len_seq (by rfl) M.len PySem.boot_len (pa_cons (pe_ix ix_list (pv 0) pe_int (fun _ _ => rfl)) pa_nil)) (nomark _)) (pss_one (ps_ret (pe_op op_mod (pe_callTy call_int1 (by rfl) M.int (by decide +kernel) (pa_cons (pe_ix ix_list (pe_ix ix_list (pv 0) pe_int (fun _ _ => rfl)) (pv 2) (fun _ _ => rfl)) pa_nil)) (pv 1)))) pss_nil)
        (pss_one (ps_ret (pe_op op_mod (pe_callTy call_int1 (by rfl) M.int (by decide +kernel) (pa_cons (pe_op op_add (pe_op op_mul (pv 2) pe_int) pe_int) pa_nil)) (pv 1))))))), ?_⟩
    refine ⟨_, rfl, b, _, _, _, rfl, rfl, SqL.of hb, rfl, ?_⟩
    refine ⟨_, rfl, _, _, rfl, rfl, _, rfl, b, _, _, 1, rfl, rfl, hb, rfl, ?_⟩
    have hb' : upd H b (.lst [.ref l, .int (n + 1)]) b = some (.lst [.ref l, .int (n + 1)]) := upd_same
    have hl' : upd H b (.lst [.ref l, .int (n + 1)]) l = some (.lst (ds.map V.int)) := by rw [upd_ne ne.symm]; exact hl
    have B : Box (upd H b (.lst [.ref l, .int (n + 1)])) b := ⟨l, ds, n + 1, hb', hl', ne, by omega, hlen⟩
    have U : But b H (upd H b (.lst [.ref l, .int (n + 1)])) := ⟨fun a o na z => by rw [upd_ne na]; exact z, fun l' n' z => by
      rw [hb] at z
      cases z
      exact ⟨n + 1, hb'⟩⟩
    refine ⟨_, rfl, _, rfl, b, _, _, _, rfl, rfl, SqL.of hb', rfl, l, _, rfl, .inl (SqL.of hl'), _, _, rfl, rfl, _, rfl, ?_⟩
    refine ite2 (fun c => ?_) (fun c => ?_)
    · have lt := of_decide_eq_true c
      rw [List.length_map] at lt
      obtain ⟨j, rfl⟩ : ∃ j : Nat, n = (j : Int) := ⟨n.toNat, by omega⟩
      have hj : j < ds.length := by omega
      refine ⟨_, rfl, b, _, _, _, rfl, rfl, SqL.of hb', rfl, _, rfl, l, _, _, _, rfl, rfl, SqL.of hl', atI_nat (v := V.int ds[j]) (by rw [List.getElem?_map, List.getElem?_eq_getElem hj]; rfl), .inl ⟨_, rfl, _, rfl, _, _, rfl, rfl, hm, ?_⟩⟩
      exact q _ _ (Int.emod_nonneg _ (by omega)) (Int.emod_lt_of_pos _ hm) B U
    · refine ⟨_, rfl, _, _, rfl, rfl, .inr ⟨by decide, by decide⟩, _, _, rfl, rfl, .inl ⟨_, rfl, _, rfl, _, _, rfl, rfl, hm, ?_⟩⟩
      exact q _ _ (Int.emod_nonneg _ (by omega)) (Int.emod_lt_of_pos _ hm) B U
end
end LB

set_option maxRecDepth 100000
set_option maxHeartbeats 4000000
namespace LB
open PySem PySem.Spec PyProof.Rows L2
/-! ### tuples stay -/
structure Tp (H H' : Hp) : Prop where
  tup : ∀ a xs, H a = some (.tup xs) → H' a = some (.tup xs)
  frz : ∀ a o u, H a = some (.frz o u) → H' a = some (.frz o u)
theorem Tp.refl (H : Hp) : Tp H H := ⟨fun _ _ z => z, fun _ _ _ z => z⟩
theorem Tp.trans {H H1 H2 : Hp} (x : Tp H H1) (y : Tp H1 H2) : Tp H H2 := ⟨fun a xs z => y.tup a xs (x.tup a xs z), fun a o u z => y.frz a o u (x.frz a o u z)⟩
theorem Tp.same {H H' : Hp} (e : Same H H') : Tp H H' := ⟨fun a xs z => e _ _ z, fun a o u z => e _ _ z⟩
theorem Tp.but {b : Addr} {H H' : Hp} (B : Box H b) (e : But b H H') : Tp H H' :=
  ⟨fun a xs z => e.k a _ (fun y => B.ne.1 xs (y ▸ z)) z, fun a o u z => e.k a _ (fun y => B.ne.2 o u (y ▸ z)) z⟩
theorem Tp.lst {H : Hp} {l : Addr} {xs : List V} {o : HO} (h : H l = some (.lst xs)) : Tp H (upd H l o) :=
  ⟨fun a ys z => by rw [upd_ne (ne_of z h (by intro y; cases y))]; exact z, fun a p u z => by rw [upd_ne (ne_of z h (by intro y; cases y))]; exact z⟩
theorem Tp.seq {K : PySem.W.Frag} {H H' : Hp} {a : Addr} {xs : List V} (x : Tp H H') (h : SqT K H a xs) : SqT K H' a xs := by
  rcases h with (h | ⟨o, h⟩) | h
  · exact .inl (.inl (x.tup _ _ h))
  · exact .inl (.inr ⟨o, x.frz _ _ _ h⟩)
  · exact .inr h
theorem Box.apart {H : Hp} {b l : Addr} (B : Box H b) (n : H l = none) : l ≠ b := fun z => by
  obtain ⟨_, _, _, h, _⟩ := B
  rw [z, h] at n
  cases n
theorem Box.keepL {H H' : Hp} {b l : Addr} {xs : List V} (B : Box H b) (n : H l = none) (U : But b (upd H l (.lst xs)) H') : H' l = some (.lst xs) := U.k l _ (B.apart n) upd_same
theorem Box.same {H H' : Hp} {b : Addr} (B : Box H b) (e : Same H H') : Box H' b := by
  obtain ⟨l, ds, k, h, hl, r⟩ := B
  exact ⟨l, ds, k, e _ _ h, e _ _ hl, r⟩
theorem same_new {H : Hp} {p : Addr} {o : HO} (n : H p = none) : Same H (upd H p o) := same_upd (Same.refl H) n
theorem Box.off {H : Hp} {b l : Addr} (B : Box H b) (e : H l = none) : l ≠ b := B.apart e
/-- a list that is not of the box is written -/
theorem Box.put {H0 H : Hp} {b l : Addr} {o : HO} (B0 : Box H0 b) (B : Box H b) (U : But b H0 H) (e : H0 l = none) : Box (upd H l o) b ∧ But b H0 (upd H l o) := by
  have lb := B0.off e
  obtain ⟨l0, d0, n0, hb0, hl0, _⟩ := B0
  obtain ⟨l1, d1, n1, hb1, hl1, ne1, r⟩ := B
  obtain ⟨n', h'⟩ := U.d l0 n0 hb0
  have el : l1 = l0 := by
    rw [hb1] at h'
    have e2 := Option.some.inj h'
    injection e2 with e3
    injection e3 with e4
    exact V.ref.inj e4
  subst el
  have ll : l ≠ l1 := fun z => by rw [z, hl0] at e; cases e
  have U' : But b H0 (upd H l o) := ⟨fun a u na q => by
    have al : a ≠ l := fun z => by rw [z, e] at q; cases q
    rw [upd_ne al]
    exact U.k a u na q, fun l' m q => by
    obtain ⟨m', q'⟩ := U.d l' m q
    exact ⟨m', by rw [upd_ne (Ne.symm lb)]; exact q'⟩⟩
  exact ⟨⟨l1, d1, n1, by rw [upd_ne (Ne.symm lb)]; exact hb1, by rw [upd_ne (Ne.symm ll)]; exact hl1, ne1, r⟩, U'⟩
end LB

set_option maxRecDepth 100000
set_option maxHeartbeats 4000000
namespace LB
open PySem PySem.Spec PyProof.Rows L2
/-! ### words and tests -/
theorem atI_0 {x : V} {xs : List V} : atI (x :: xs) 0 = some x := atI_nat (j := 0) (v := x) (xs := x :: xs) rfl
theorem iteE {x y : Str} {A B : Prop} (h : x = y) (a : A) : if decide (V.str x = V.str y) = true then A else B := by rw [if_pos (decide_eq_true (congrArg V.str h))]; exact a
theorem iteN {x y : Str} {A B : Prop} (h : x ≠ y) (b : B) : if decide (V.str x = V.str y) = true then A else B := by rw [if_neg (fun c => h (V.str.inj (of_decide_eq_true c)))]; exact b
theorem ite_int {x y : Int} {A B : Prop} (h1 : x = y → A) (h2 : x ≠ y → B) : if decide (V.int x = V.int y) = true then A else B :=
  ite2 (fun c => h1 (V.int.inj (of_decide_eq_true c))) (fun c => h2 fun e => c (decide_eq_true (congrArg V.int e)))
theorem inTwo {x a b : Str} (h : inV (V.str x) [V.str a, V.str b] = true) : a = x ∨ b = x := by
  have h : ((a == x) || ((b == x) || false)) = true := h
  rw [Bool.or_false, Bool.or_eq_true] at h
  exact h.imp (fun e => eq_of_beq e) fun e => eq_of_beq e
theorem inTwo_of {x a b : Str} (h : a = x ∨ b = x) : inV (V.str x) [V.str a, V.str b] = true := by
  show ((a == x) || ((b == x) || false)) = true
  rw [Bool.or_false, Bool.or_eq_true]
  exact h.imp (fun e => beq_iff_eq.mpr e) fun e => beq_iff_eq.mpr e
/-! ### data under what stays -/
theorem sqT_same {K : PySem.W.Frag} {H H' : Hp} {a : Addr} {xs : List V} (e : Same H H') (h : SqT K H a xs) : SqT K H' a xs := (Tp.same e).seq h
theorem sqL_same {K : PySem.W.Frag} {H H' : Hp} {a : Addr} {xs : List V} (e : Same H H') (h : SqL K H a xs) : SqL K H' a xs := by
  rcases h with (h | ⟨o, h⟩) | h
  · exact .inl (.inl (e _ _ h))
  · exact .inl (.inr ⟨o, e _ _ h⟩)
  · exact .inr h
mutual
theorem dp_same {K : PySem.W.Frag} {H H' : Hp} (e : Same H H') : ∀ {v : V} {d : PyData}, Dp K H v d → Dp K H' v d
  | _, _, .non => .non
  | _, _, .bl b => .bl b
  | _, _, .int i => .int i
  | _, _, .str x => .str x
  | _, _, .lst h r => .lst (sqL_same e h) (dpAll_same e r)
  | _, _, .tup h r => .tup (sqT_same e h) (dpAll_same e r)
theorem dpAll_same {K : PySem.W.Frag} {H H' : Hp} (e : Same H H') : ∀ {vs : List V} {ds : List PyData}, DpAll K H vs ds → DpAll K H' vs ds
  | _, _, .nil => .nil
  | _, _, .cons h r => .cons (dp_same e h) (dpAll_same e r)
end
theorem dpI {K : PySem.W.Frag} {H : Hp} : ∀ {ns : List Int}, DpAll K H (ns.map V.int) (ns.map PyData.int)
  | [] => .nil
  | n :: r => .cons (.int n) dpI
theorem map_at {ns : List Int} {j : Nat} {x : V} (h : (ns.map V.int)[j]? = some x) : ∃ q, ns[j]? = some q ∧ x = .int q := by
  rw [List.getElem?_map] at h
  obtain ⟨q, h1, h2⟩ := Option.map_eq_some_iff.mp h
  exact ⟨q, h1, h2.symm⟩
theorem free_new {H : Hp} {p p2 : Addr} {o : HO} (n : H p = none) (n2 : (upd H p o) p2 = none) : H p2 = none := by
  by_cases e : p2 = p
  · rw [e]; exact n
  · rw [upd_ne e] at n2
    exact n2
/-- two items, one told before -/
theorem dp_two {K : PySem.W.Frag} {H : Hp} {r : V} {d : PyData} {k : Int} {p : Addr} (n : H p = none) (h : Dp K H r d) : Dp K (upd H p (.tup [r, .int k])) (.ref p) (.tuple [d, .int k]) :=
  .tup (SqT.of upd_same) (.cons (dp_same (same_new n) h) (.cons (.int _) .nil))
/-! ### comprehensions: one more walk -/
theorem in_tup {K : PySem.W.Frag} {a : Addr} {ys : List V} {Nx : Hp → Prop} {R : V → Hp → (Hp → Prop) → Prop} {H4 : Hp} (Pv : Nat → Hp → Prop) (h0 : Pv 0 H4) (hl : ∀ j H, j ≤ ys.length → Pv j H → SqT K H a ys)
    (hs : ∀ j y H, ys[j]? = some y → Pv j H → R y H (Pv (j + 1))) (hd : ∀ H, Pv ys.length H → Nx H) :
    ∃ W1 : Nat → Nat → Hp → Prop, (∃ m, W1 0 m H4) ∧ ∀ j k H, W1 j k H → ((Itt K a).stop j H ∧ Nx H) ∨ ((Itt K a).go j H ∧ ∃ Nx1 : Hp → Prop, (∀ H', Nx1 H' → ∃ k', k' < k ∧ W1 (j + 1) k' H') ∧ ∀ x H', (Itt K a).yld j H x H' → R x H' Nx1) := by
  refine ⟨fun i m H => m = ys.length - i ∧ i ≤ ys.length ∧ Pv i H, ⟨ys.length, by simp, Nat.zero_le _, h0⟩, ?_⟩
  rintro i m H ⟨rfl, hi, p⟩
  have q := hl i H hi p
  by_cases hlt : i < ys.length
  · refine .inr ⟨⟨ys, ys[i], q, by simp [hlt]⟩, Pv (i + 1), fun H' p' => ⟨ys.length - (i + 1), by omega, rfl, hlt, p'⟩, fun x H' y => ?_⟩
    obtain ⟨e, y⟩ := y
    subst e
    exact hs i x _ (y ys q) p
  · have e : i = ys.length := by omega
    subst e
    exact .inl ⟨⟨ys, q, Nat.le_refl _⟩, hd H p⟩
theorem takeS {α : Type} {l : List α} {i : Nat} {x : α} (h : l[i]? = some x) : l.take (i + 1) = l.take i ++ [x] := by
  rw [List.take_add_one, h]
  rfl
theorem ix_listK {X : Cx} {K : PySem.W.Frag} (h : X.K = K) : IxR X (rIxL K) := by
  subst h
  exact ix_list
theorem ix_tupK {X : Cx} {K : PySem.W.Frag} (h : X.K = K) : IxR X (rIxT K) := by
  subst h
  exact ix_tup
def rTupOf (K : PySem.W.Frag) : List V → Hp → VK → Prop := fun xs H Q => ∃ p ys, xs = [V.ref p] ∧ ((SqL K H p ys ∧ ∀ l, H l = none → Q (.ref l) (upd H l (.tup ys))) ∨ SqT K H p ys ∧ Q (.ref p) H)
theorem call_tupleK {X : Cx} {K : PySem.W.Frag} (h : X.K = K) : CallR X (.type "tuple") (rTupOf K) := by
  subst h
  exact call_tuple_of
theorem pi_tupK {X : Cx} {tg : Expr} {K : PySem.W.Frag} (h : X.K = K) {l : Expr} {tl : TE} (hl : PE X l tl) : PI X tg l (iTup K tl) := by
  subst h
  exact pi_tup hl
end LB

set_option maxRecDepth 100000
set_option maxHeartbeats 8000000
namespace LB
open PySem PySem.Spec PyProof.Rows L2
/-! ### disks -/
theorem bn {b : Bool} (h : (!b) = true) : b = false := by
  cases b
  · rfl
  · cases h
theorem bp {b : Bool} (h : ¬ (!b) = true) : b = true := by
  cases b
  · exact absurd rfl h
  · rfl
theorem dec_int (x y : Int) : decide (V.int x = V.int y) = decide (x = y) := by
  by_cases h : x = y
  · rw [h, decide_eq_true rfl, decide_eq_true rfl]
  · rw [decide_eq_false h, decide_eq_false fun e => h (V.int.inj e)]
theorem all_map {α : Type} (f : α → Bool) (l : List α) : (l.map f).all id = l.all f := by
  rw [List.all_map]
  rfl
theorem same_none {H H' : Hp} {p : Addr} (S : Same H H') (n : H' p = none) : H p = none := by
  cases e : H p with
  | none => rfl
  | some o => rw [S p o e] at n; cases n
def Blk (b : List Int) : Prop := b.length = 32 ∧ ∀ x ∈ b, 0 ≤ x ∧ x ≤ 255
/-- what a disk holds -/
structure DSt where
  st : List (List Int)
  wt : List (Int × List Int)
  cuts : Int
  after : Option Int
  torn : List Int
def oV : Option Int → V
  | none => .non
  | some i => .int i
structure DSt.Ok (D : DSt) : Prop where
  lo : 8 ≤ D.st.length
  hi : D.st.length ≤ 400
  st : ∀ b ∈ D.st, Blk b
  wt : ∀ w ∈ D.wt, (0 ≤ w.1 ∧ w.1 < (D.st.length : Int)) ∧ Blk w.2
  torn : ∀ t ∈ D.torn, 0 ≤ t ∧ t ≤ 32
  few : D.wt.length ≤ 3000
  tl : D.torn.length ≤ 3000
def dkFs (S W T : Addr) (c : Int) (a : V) : List (Str × V) := [("_stored", .ref S), ("_waiting", .ref W), ("_cuts", .int c), ("_cut_after", a), ("_torn", .ref T)]
/-- the addresses of a disk, and what stands there -/
structure DPl where
  dx : Addr
  S : Addr
  W : Addr
  T : Addr
  sr : List (Addr × List Int)
  wr : List (Addr × (Int × (Addr × List Int)))
def DPl.all (p : DPl) (x : Addr) : List Addr := x :: p.S :: p.W :: p.T :: (p.sr.map (·.1) ++ p.wr.map (·.1) ++ p.wr.map (·.2.2.1))
structure DiskAt (H : Hp) (C x : Addr) (D : DSt) (p : DPl) : Prop where
  obj : H x = some (.ins C p.dx (dkFs p.S p.W p.T D.cuts (oV D.after)))
  S : H p.S = some (.lst (p.sr.map fun q => V.ref q.1))
  sr : ∀ q ∈ p.sr, H q.1 = some (.lst (q.2.map V.int)) ∧ q.1 ≠ p.S ∧ q.1 ≠ p.W
  st : p.sr.map (·.2) = D.st
  W : H p.W = some (.lst (p.wr.map fun q => V.ref q.1))
  wr : ∀ q ∈ p.wr, H q.1 = some (.tup [.int q.2.1, .ref q.2.2.1]) ∧ H q.2.2.1 = some (.lst (q.2.2.2.map V.int)) ∧ q.2.2.1 ≠ p.S ∧ q.2.2.1 ≠ p.W
  wt : p.wr.map (fun q => (q.2.1, q.2.2.2)) = D.wt
  T : H p.T = some (.lst (D.torn.map V.int))
  SW : p.S ≠ p.W
  TS : p.T ≠ p.S
  TW : p.T ≠ p.W
/-- what is not the disk's stays -/
def FrD (p : DPl) (x : Addr) (H H' : Hp) : Prop := ∀ a o, a ∉ p.all x → H a = some o → H' a = some o
/-- what the disk has now it had, or it is new -/
def NewD (p p' : DPl) (x : Addr) (H : Hp) : Prop := ∀ a ∈ p'.all x, a ∈ p.all x ∨ H a = none
theorem DiskAt.alloc {H : Hp} {C x : Addr} {D : DSt} {p : DPl} (h : DiskAt H C x D p) : ∀ a ∈ p.all x, H a ≠ none := by
  intro a ha e
  unfold DPl.all at ha
  simp only [List.mem_cons, List.mem_append, List.mem_map] at ha
  rcases ha with rfl | rfl | rfl | rfl | (⟨q, hq, rfl⟩ | ⟨q, hq, rfl⟩) | ⟨q, hq, rfl⟩
  · rw [h.obj] at e; cases e
  · rw [h.S] at e; cases e
  · rw [h.W] at e; cases e
  · rw [h.T] at e; cases e
  · rw [(h.sr q hq).1] at e; cases e
  · rw [(h.wr q hq).1] at e; cases e
  · rw [(h.wr q hq).2.1] at e; cases e
theorem DiskAt.keep {H H' : Hp} {C x : Addr} {D : DSt} {p : DPl} (h : DiskAt H C x D p) (k : ∀ a ∈ p.all x, H' a = H a) : DiskAt H' C x D p := by
  have mx : x ∈ p.all x := by unfold DPl.all; simp
  have mS : p.S ∈ p.all x := by unfold DPl.all; simp
  have mW : p.W ∈ p.all x := by unfold DPl.all; simp
  have mT : p.T ∈ p.all x := by unfold DPl.all; simp
  have m1 : ∀ q ∈ p.sr, q.1 ∈ p.all x := fun q hq => by
    unfold DPl.all
    simp only [List.mem_cons, List.mem_append, List.mem_map]
    exact .inr (.inr (.inr (.inr (.inl (.inl ⟨q, hq, rfl⟩)))))
  have m2 : ∀ q ∈ p.wr, q.1 ∈ p.all x := fun q hq => by
    unfold DPl.all
    simp only [List.mem_cons, List.mem_append, List.mem_map]
    exact .inr (.inr (.inr (.inr (.inl (.inr ⟨q, hq, rfl⟩)))))
  have m3 : ∀ q ∈ p.wr, q.2.2.1 ∈ p.all x := fun q hq => by
    unfold DPl.all
    simp only [List.mem_cons, List.mem_append, List.mem_map]
    exact .inr (.inr (.inr (.inr (.inr ⟨q, hq, rfl⟩))))
  exact ⟨(k _ mx).trans h.obj, (k _ mS).trans h.S, fun q hq => ⟨(k _ (m1 q hq)).trans (h.sr q hq).1, (h.sr q hq).2⟩, h.st, (k _ mW).trans h.W,
    fun q hq => ⟨(k _ (m2 q hq)).trans (h.wr q hq).1, (k _ (m3 q hq)).trans (h.wr q hq).2.1, (h.wr q hq).2.2⟩, h.wt, (k _ mT).trans h.T, h.SW, h.TS, h.TW⟩
theorem DiskAt.same {H H' : Hp} {C x : Addr} {D : DSt} {p : DPl} (h : DiskAt H C x D p) (S : Same H H') : DiskAt H' C x D p := h.keep fun a ha => by
  cases e : H a with
  | none => exact absurd e (h.alloc a ha)
  | some o => exact S a o e
theorem DiskAt.new {H : Hp} {C x q : Addr} {D : DSt} {p : DPl} (h : DiskAt H C x D p) (n : H q = none) : q ∉ p.all x := fun m => h.alloc q m n
theorem FrD.same {p : DPl} {x : Addr} {H H' : Hp} (S : Same H H') : FrD p x H H' := fun a o _ e => S a o e
theorem NewD.refl {p : DPl} {x : Addr} {H : Hp} : NewD p p x H := fun _ h => .inl h
theorem FrD.trans {p p1 : DPl} {x : Addr} {H H1 H2 : Hp} (a : FrD p x H H1) (n : NewD p p1 x H) (b : FrD p1 x H1 H2) : FrD p x H H2 := fun c o nc e => by
  refine b c o (fun m => ?_) (a c o nc e)
  rcases n c m with h | h
  · exact nc h
  · rw [h] at e; cases e
theorem NewD.trans {p p1 p2 : DPl} {x : Addr} {H H1 : Hp} (n : NewD p p1 x H) (a : FrD p x H H1) (m : NewD p1 p2 x H1) : NewD p p2 x H := fun c hc => by
  rcases m c hc with h | h
  · exact n c h
  · by_cases i : c ∈ p.all x
    · exact .inl i
    · cases e : H c with
      | none => exact .inr rfl
      | some o => rw [a c o i e] at h; cases h
/-- what reading a place tells -/
def DSt.readB (D : DSt) (at_ : Int) : List Int := D.wt.foldl (fun b w => if w.1 = at_ then w.2 else b) (D.st.getD at_.toNat [])
structure NamesG (mg : Str → Option Value) : Prop extends Names mg where
  all : mg "all" = none
  list : mg "list" = none
  en : mg "enumerate" = none
structure TopG (mg : Str → Option Value) : Prop where
  blk : ∃ t, mg "BLOCK" = some (.int 32 t)
  most : ∃ t, mg "BLOCKS_MOST" = some (.int 400 t)
  least : ∃ t, mg "BLOCKS_LEAST" = some (.int 8 t)
  byte : ∃ t, mg "BYTE_MOST" = some (.int 255 t)
structure ClsG (K : PySem.W.Frag) (C : Addr) : Prop where
  cl : Cls K C
  stored : NoAttr K C "_stored"
  waiting : NoAttr K C "_waiting"
  cuts : NoAttr K C "_cuts"
  after : NoAttr K C "_cut_after"
  torn : NoAttr K C "_torn"
section
variable {P : Program} {w : World} {K : PySem.W.Frag} {mg : Str → Option Value} {base : Heap} {Cd C fI cc cda : Addr}
/-- the error with this name -/
abbrev RaisesO (C : Addr) (z : Str) (H : Hp) (E : XK) : Prop := ∀ (H' : Hp) (d : Addr), Same H H' → H' d = none → E (.ref C) (some d) (upd H' d (.xd [(("name" : Str), .str z)]))
def spSize (Cd : Addr) : Sp := fun vs H Q _ => ∃ (x : Addr) (D : DSt) (p : DPl), vs = [.ref x] ∧ DiskAt H Cd x D p ∧ Q (.int D.st.length) H
theorem scSz : FnScope ["self"] ["self"] (defScope dsSize) := ⟨rfl, rfl, rfl, by decide +kernel, rfl, by decide +kernel, by decide +kernel⟩
theorem ok_size {f : Addr} {fd : FuncData} (F : Fun K "size" "Disk.size" dsSize f fd) (G : ClsG K Cd) (M : NamesG mg) : FnOk P w K mg base CX0 1 f fd ["self"] (spSize Cd) := by
  refine F.ok scSz (fun vs H Q E h => ?_) (fun cdv A outer s H vs Q E hr h => ?_)
  · obtain ⟨x, D, p, rfl, _⟩ := h
    rfl
  · obtain ⟨x, D, p, rfl, h, q⟩ := h
    have cl := G.cl
    refine ⟨_, (pss_one (ps_ret (pe_callB call_len_seq (by rfl) M.len PySem.boot_len (pa_cons (pe_fld (pv 0) rfl) pa_nil)))), ?_⟩
    refine ⟨_, rfl, x, Cd, _, _, _, rfl, h.obj, cl, G.stored, rfl, p.S, _, rfl, .inl (SqL.of h.S), ?_⟩
    rw [List.length_map, ← List.length_map (f := (·.2)), h.st]
    exact q
def spPend (Cd : Addr) : Sp := fun vs H Q _ => ∃ (x : Addr) (D : DSt) (p : DPl), vs = [.ref x] ∧ DiskAt H Cd x D p ∧ Q (.int D.wt.length) H
theorem scPc : FnScope ["self"] ["self"] (defScope dsPend) := ⟨rfl, rfl, rfl, by decide +kernel, rfl, by decide +kernel, by decide +kernel⟩
theorem ok_pend {f : Addr} {fd : FuncData} (F : Fun K "pending_count" "Disk.pending_count" dsPend f fd) (G : ClsG K Cd) (M : NamesG mg) : FnOk P w K mg base CX0 1 f fd ["self"] (spPend Cd) := by
  refine F.ok scPc (fun vs H Q E h => ?_) (fun cdv A outer s H vs Q E hr h => ?_)
  · obtain ⟨x, D, p, rfl, _⟩ := h
    rfl
  · obtain ⟨x, D, p, rfl, h, q⟩ := h
    have cl := G.cl
    refine ⟨_, (pss_one (ps_ret (pe_callB call_len_seq (by rfl) M.len PySem.boot_len (pa_cons (pe_fld (pv 0) rfl) pa_nil)))), ?_⟩
    refine ⟨_, rfl, x, Cd, _, _, _, rfl, h.obj, cl, G.waiting, rfl, p.W, _, rfl, .inl (SqL.of h.W), ?_⟩
    rw [List.length_map, ← List.length_map (f := fun q => (q.2.1, q.2.2.2)), h.wt]
    exact q
def spCuts (Cd : Addr) : Sp := fun vs H Q _ => ∃ (x : Addr) (D : DSt) (p : DPl), vs = [.ref x] ∧ DiskAt H Cd x D p ∧ Q (.int D.cuts) H
theorem scCu : FnScope ["self"] ["self"] (defScope dsCuts) := ⟨rfl, rfl, rfl, by decide +kernel, rfl, by decide +kernel, by decide +kernel⟩
theorem ok_cuts {f : Addr} {fd : FuncData} (F : Fun K "cut_count" "Disk.cut_count" dsCuts f fd) (G : ClsG K Cd) : FnOk P w K mg base CX0 1 f fd ["self"] (spCuts Cd) := by
  refine F.ok scCu (fun vs H Q E h => ?_) (fun cdv A outer s H vs Q E hr h => ?_)
  · obtain ⟨x, D, p, rfl, _⟩ := h
    rfl
  · obtain ⟨x, D, p, rfl, h, q⟩ := h
    have cl := G.cl
    refine ⟨_, (pss_one (ps_ret (pe_fld (pv 0) rfl))), ?_⟩
    exact ⟨_, rfl, x, Cd, _, _, _, rfl, h.obj, cl, G.cuts, rfl, q⟩
def spPlace (Cd C : Addr) : Sp := fun vs H Q E => ∃ (x : Addr) (D : DSt) (p : DPl) (at_ : Int), vs = [.ref x, .int at_] ∧ DiskAt H Cd x D p ∧ (0 ≤ at_ ∧ at_ < (D.st.length : Int) → Q .non H) ∧ (¬ (0 ≤ at_ ∧ at_ < (D.st.length : Int)) → RaisesO C "at" H E)
theorem scPl : FnScope ["self", "at"] ["self", "at"] (defScope dsPlace) := ⟨rfl, rfl, rfl, by decide +kernel, rfl, by decide +kernel, by decide +kernel⟩
theorem ok_place {f : Addr} {fd : FuncData} (F : Fun K "_check_place" "Disk._check_place" dsPlace f fd) (G : ClsG K Cd) (O : Oor K mg P "OutOfRange" C fI cc cda) (M : NamesG mg) : FnOk P w K mg base (L2.CX P w) 2 f fd ["self", "at"] (spPlace Cd C) := by
  refine F.okX scPl (fun vs H Q E h => ?_) (fun cdv A outer s H vs Q E hr h => ?_)
  · obtain ⟨x, D, p, at_, rfl, _⟩ := h
    rfl
  · obtain ⟨x, D, p, at_, rfl, h, q1, q2⟩ := h
    have cl := G.cl
    refine ⟨_, (pss_one (ps_if (pt_not (pt_chain op_le op_lt pe_int (pv 1) (pe_callB call_len_seq (by rfl) M.len PySem.boot_len (pa_cons (pe_fld (pv 0) rfl) pa_nil)))) (pss_one (ps_raiseErr (W := fun cls d _ H' => E cls d H') rfl O hr (takes_of rfl rfl rfl rfl) (pa_cons pe_str pa_nil) rfl (by decide))) pss_nil)), ?_⟩
    have el : (p.sr.map fun q => V.ref q.1).length = D.st.length := by rw [← h.st, List.length_map, List.length_map]
    refine ⟨_, rfl, _, _, rfl, rfl, _, rfl, ite2 (fun c1 => ?_) (fun c1 => ?_)⟩
    · have c1 := of_decide_eq_true c1
      refine ⟨_, rfl, x, Cd, _, _, _, rfl, h.obj, cl, G.stored, rfl, p.S, _, rfl, .inl (SqL.of h.S), ?_⟩
      rw [el]
      refine ⟨_, _, rfl, rfl, _, rfl, ite2 (fun c2 => ?_) (fun c2 => ?_)⟩
      · have c2 := of_decide_eq_false (bn c2)
        exact ⟨"at", rfl, by decide, fun d hd => q2 (fun z => c2 z.2) H d (Same.refl H) hd⟩
      · exact q1 ⟨c1, of_decide_eq_true (bp c2)⟩
    · have c1 : ¬ 0 ≤ at_ := fun z => c1 (decide_eq_true z)
      exact ⟨_, rfl, iteT ⟨"at", rfl, by decide, fun d hd => q2 (fun z => c1 z.1) H d (Same.refl H) hd⟩⟩
/-- all numbers are within their bounds -/
def okTorn (t : List Int) : Bool := t.all fun m => decide (0 ≤ m) && decide (m ≤ 32)
def okBlock (b : List Int) : Bool := decide (b.length = 32) && b.all fun m => decide (0 ≤ m) && decide (m ≤ 255)
def spCheckT (K : PySem.W.Frag) (C : Addr) : Sp := fun vs H Q E => ∃ (a : Addr) (t : List Int), vs = [.ref a] ∧ SqL K H a (t.map V.int) ∧ t.length ≤ 3000 ∧ (okTorn t = true → ∀ H', Same H H' → Q .non H') ∧ (okTorn t = false → RaisesO C "torn" H E)
theorem scCt : FnScope ["torn", "many"] ["torn"] (defScope sCheckTorn) := ⟨rfl, rfl, rfl, by decide +kernel, rfl, by decide +kernel, by decide +kernel⟩
theorem ok_checkt {f : Addr} {fd : FuncData} (F : Fun K "check_torn" "check_torn" sCheckTorn f fd) (O : Oor K mg P "OutOfRange" C fI cc cda) (M : NamesG mg) (T : TopG mg) : FnOk P w K mg base (L2.CX P w) 2 f fd ["torn"] (spCheckT K C) := by
  obtain ⟨t1, hb⟩ := T.blk
  refine F.okX scCt (fun vs H Q E h => ?_) (fun cdv A outer s H vs Q E hr h => ?_)
  · obtain ⟨a, t, rfl, _⟩ := h
    rfl
  · obtain ⟨a, t, rfl, ha, tl, q1, q2⟩ := h
    have nd := scCt.nd
    refine ⟨_, (pss_one (ps_if (pt_not (pt_val (pe_callB (cr_all rfl) (by rfl) M.all (by decide +kernel) (pa_cons (pe_lc (own := [("many", 1)]) (g := (gName 1)) rfl nd (pi_list (pv 0)) (blkOk_by (N := ["torn", "many"]) (sc := (defScope sCheckTorn)) (by decide +kernel)) (fun _ _ _ _ _ => (pg_name (i := 1) nd rfl (Or.inl rfl))) (fun _ _ _ _ _ => pts_nil) (fun _ _ _ _ _ => (pe_chain op_le op_le pe_int (pv 1) (pe_glob (v := .int 32) rfl hb ⟨_, rfl⟩)))) pa_nil)))) (pss_one (ps_raiseErr (W := fun cls d _ H' => E cls d H') rfl O hr (takes_of rfl rfl rfl rfl) (pa_cons pe_str pa_nil) rfl (by decide))) pss_nil)), ?_⟩
    refine ⟨_, rfl, a, rfl, ⟨_, ha⟩, fun D nD => ?_⟩
    refine lc_list (K := K) (xs := t.map V.int) (fun j H' => Same H H' ∧ H' D = some (.lst ((t.take j).map fun m => V.bl (decide (0 ≤ m) && decide (m ≤ 32))))) ⟨same_new nD, upd_same⟩ (fun j H' _ h => sqL_same h.1 ha) ?_ ?_
    · rintro j y H1 hy ⟨S1, hD⟩
      obtain ⟨m, hm, rfl⟩ := map_at hy
      have put : ∀ z : Bool, z = (decide (0 ≤ m) && decide (m ≤ 32)) → Same H (upd H1 D (.lst (((t.take j).map fun m => V.bl (decide (0 ≤ m) && decide (m ≤ 32))) ++ [V.bl z]))) ∧ upd H1 D (.lst (((t.take j).map fun m => V.bl (decide (0 ≤ m) && decide (m ≤ 32))) ++ [V.bl z])) D = some (.lst ((t.take (j + 1)).map fun m => V.bl (decide (0 ≤ m) && decide (m ≤ 32)))) := fun z hz =>
        ⟨same_upd S1 nD, by rw [takeS hm, List.map_append, hz]; exact upd_same⟩
      have len : ((t.take j).map fun m => V.bl (decide (0 ≤ m) && decide (m ≤ 32))).length < sizeLine := by
        rw [List.length_map, List.length_take]
        exact small_line (by omega)
      refine ⟨rfl, _, rfl, _, _, rfl, rfl, _, rfl, ite2 (fun c1 => ?_) (fun c1 => ?_)⟩
      · have c1 : decide (0 ≤ m) = true := c1
        exact ⟨_, _, rfl, rfl, _, hD, len, put _ (by rw [c1, Bool.true_and])⟩
      · have c1 : decide (0 ≤ m) = false := Bool.eq_false_iff.mpr c1
        exact ⟨_, hD, len, put _ (by rw [c1, Bool.false_and])⟩
    rintro H1 ⟨S1, hD⟩
    rw [List.length_map, List.take_length] at hD
    refine ⟨D, t.map fun m => decide (0 ≤ m) && decide (m ≤ 32), rfl, SqL.of (by rw [hD, List.map_map]; rfl), ?_⟩
    rw [all_map]
    refine ⟨_, rfl, ite2 (fun c => ?_) (fun c => q1 (bp c) H1 S1)⟩
    exact ⟨"torn", rfl, by decide, fun d hd => q2 (bn c) H1 d S1 hd⟩
def spReadM (Cd C : Addr) : Sp := fun vs H Q E => ∃ (x : Addr) (D : DSt) (p : DPl) (at_ : Int), vs = [.ref x, .int at_] ∧ DiskAt H Cd x D p ∧ D.Ok ∧
  (0 ≤ at_ ∧ at_ < (D.st.length : Int) → ∀ (a : Addr) (H' : Hp), Same H H' → H a = none → H' a = some (.lst ((D.readB at_).map V.int)) → Q (.ref a) H') ∧ (¬ (0 ≤ at_ ∧ at_ < (D.st.length : Int)) → RaisesO C "at" H E)
theorem scRe : FnScope ["self", "at", "block", "place", "written"] ["self", "at"] (defScope dsRead) := ⟨rfl, rfl, rfl, by decide +kernel, rfl, by decide +kernel, by decide +kernel⟩
theorem ok_readM {f fP : Addr} {fd fdP : FuncData} (F : Fun K "read" "Disk.read" dsRead f fd) (G : ClsG K Cd) (O : Oor K mg P "OutOfRange" C fI cc cda) (M : NamesG mg) (FP : Fun K "_check_place" "Disk._check_place" dsPlace fP fdP) (hP : Meth K Cd "_check_place" fP) (bP : Binds K fdP ["self", "at"] []) :
    FnOk P w K mg base (L2.CX P w) 3 f fd ["self", "at"] (spReadM Cd C) := by
  have GP : FnOk P w K mg base (L2.CX P w) 2 fP fdP ["self", "at"] (spPlace Cd C) := ok_place FP G O M
  refine F.okX scRe (fun vs H Q E h => ?_) (fun cdv A outer s H vs Q E hr h => ?_)
  · obtain ⟨x, D, p, at_, rfl, _⟩ := h
    rfl
  · obtain ⟨x, D, p, at_, rfl, h, ok, q1, q2⟩ := h
    have cl := G.cl
    have nd := scRe.nd
    refine ⟨_, (pss_cons (ps_expr (pe_meth (pv 0) cl hP GP (hr.mono (by decide)) bP .nil (passes_call (takes_of rfl rfl rfl rfl) (fun _ _ _ _ h => h)) (pa_cons (pv 1) pa_nil)))
        (PSs.nox (pss_cons (ps_set (i := 2) nd rfl (Or.inl rfl) (pe_ix ix_list (pe_fld (pv 0) rfl) (pv 1) (fun _ _ => rfl)))
        (pss_cons (ps_for PassesOwn.never rfl (pi_list (pe_fld (pv 0) rfl)) (pg_tup (by rfl) (pgs_cons (pg_name (i := 3) nd rfl (Or.inl rfl)) (pgs_cons (pg_name (i := 4) nd rfl (Or.inl rfl)) pgs_nil))) (pss_one (ps_if (pt_cmpR op_eq (pv 3) (pv 1) (nomark _)) (pss_one (ps_set (i := 2) nd rfl (Or.inl rfl) (pv 4))) pss_nil)))
        (pss_one (ps_ret (pe_callTy call_list_of (by rfl) M.list (by decide +kernel) (pa_cons (pv 2) pa_nil)))))))), ?_⟩
    refine ⟨_, rfl, x, _, _, rfl, h.obj, rfl, _, rfl, x, D, p, at_, rfl, h, fun ha => ?_, q2⟩
    have q1 := q1 ha
    clear q2
    obtain ⟨k, rfl⟩ : ∃ k : Nat, at_ = (k : Int) := ⟨at_.toNat, by omega⟩
    have hk : k < p.sr.length := by
      have := congrArg List.length h.st
      rw [List.length_map] at this
      omega
    have hg := List.getElem?_eq_getElem hk
    generalize p.sr[k] = q0 at hg
    obtain ⟨r0, b0⟩ := q0
    have hr0 := (h.sr _ (List.mem_of_getElem? hg)).1
    have e0 : D.st.getD ((k : Int)).toNat [] = b0 := by
      rw [Int.toNat_natCast, ← h.st, List.getD_eq_getElem?_getD, List.getElem?_map, hg]
      rfl
    refine ⟨_, rfl, x, Cd, _, _, _, rfl, h.obj, cl, G.stored, rfl, _, rfl, p.S, _, _, _, rfl, rfl, SqL.of h.S, atI_nat (j := k) (by rw [List.getElem?_map, hg]; rfl), ?_⟩
    refine ⟨_, rfl, x, Cd, _, _, _, rfl, h.obj, cl, G.waiting, rfl, p.W, rfl, ⟨_, SqL.of h.W⟩, ?_⟩
    refine for_list (K := K) (xs := p.wr.map fun q => V.ref q.1) (fun j σ H' => ∃ (r : Addr) (v3 v4 : Option V), σ = [some (.ref x), some (.int (k : Int)), some (.ref r), v3, v4] ∧ H' = H ∧ H r = some (.lst (((D.wt.take j).foldl (fun b w => if w.1 = (k : Int) then w.2 else b) b0).map V.int)))
      ⟨r0, _, _, rfl, rfl, hr0⟩ (fun j σ H' _ h' => by obtain ⟨_, _, _, _, rfl, _⟩ := h'; exact SqL.of h.W) ?_ ?_
    · rintro j y σ H1 hy ⟨r, v3, v4, rfl, rfl, hr⟩
      rw [List.getElem?_map] at hy
      obtain ⟨q, hq, rfl⟩ := Option.map_eq_some_iff.mp hy
      obtain ⟨ht, hb, _⟩ := h.wr q (List.mem_of_getElem? hq)
      have hw : D.wt[j]? = some (q.2.1, q.2.2.2) := by rw [← h.wt, List.getElem?_map, hq]; rfl
      refine ⟨q.1, _, rfl, SqT.of ht, rfl, _, _, rfl, _, _, rfl, rfl, ?_⟩
      refine ⟨_, rfl, _, rfl, rfl, _, rfl, ite_int (fun e => ?_) (fun e => ?_)⟩
      · refine ⟨_, rfl, q.2.2.1, _, _, rfl, rfl, ?_⟩
        rw [takeS hw, List.foldl_append]
        show _ = some (HO.lst ((if q.2.1 = (k : Int) then q.2.2.2 else _).map V.int))
        rw [if_pos e]
        exact hb
      · refine ⟨r, _, _, rfl, rfl, ?_⟩
        rw [takeS hw, List.foldl_append]
        show _ = some (HO.lst ((if q.2.1 = (k : Int) then q.2.2.2 else _).map V.int))
        rw [if_neg e]
        exact hr
    · rintro σ H1 ⟨r, v3, v4, rfl, rfl, hr⟩
      have el : (p.wr.map fun q => V.ref q.1).length = D.wt.length := by rw [← h.wt, List.length_map, List.length_map]
      rw [el, List.take_length] at hr
      refine ⟨_, rfl, r, _, rfl, .inl (SqL.of hr), fun a na => ?_⟩
      refine q1 a _ (same_new na) na ?_
      unfold DSt.readB
      rw [e0]
      exact upd_same
end
end LB

set_option maxRecDepth 100000
set_option maxHeartbeats 8000000
namespace LB
open PySem PySem.Spec PyProof.Rows L2
/-! ### what changes a disk -/
theorem mem_all {p : DPl} {x a : Addr} : a ∈ p.all x ↔ a = x ∨ a = p.S ∨ a = p.W ∨ a = p.T ∨ (∃ q ∈ p.sr, q.1 = a) ∨ (∃ q ∈ p.wr, q.1 = a) ∨ ∃ q ∈ p.wr, q.2.2.1 = a := by
  unfold DPl.all
  simp only [List.mem_cons, List.mem_append, List.mem_map]
  constructor
  · rintro (h | h | h | h | (h | h) | h)
    · exact .inl h
    · exact .inr (.inl h)
    · exact .inr (.inr (.inl h))
    · exact .inr (.inr (.inr (.inl h)))
    · exact .inr (.inr (.inr (.inr (.inl h))))
    · exact .inr (.inr (.inr (.inr (.inr (.inl h)))))
    · exact .inr (.inr (.inr (.inr (.inr (.inr h)))))
  · rintro (h | h | h | h | h | h | h)
    · exact .inl h
    · exact .inr (.inl h)
    · exact .inr (.inr (.inl h))
    · exact .inr (.inr (.inr (.inl h)))
    · exact .inr (.inr (.inr (.inr (.inl (.inl h)))))
    · exact .inr (.inr (.inr (.inr (.inl (.inr h)))))
    · exact .inr (.inr (.inr (.inr (.inr h))))
theorem frD_at {p : DPl} {x b : Addr} {H : Hp} {o : HO} (m : b ∈ p.all x) : FrD p x H (upd H b o) := fun a o' na e => by
  rw [upd_ne (fun z => na (by rw [z]; exact m))]
  exact e
section
variable {H : Hp} {C x : Addr} {D : DSt} {p : DPl}
theorem DiskAt.neS (h : DiskAt H C x D p) : x ≠ p.S ∧ x ≠ p.W ∧ x ≠ p.T := ⟨ne_of h.obj h.S (by intro z; cases z), ne_of h.obj h.W (by intro z; cases z), ne_of h.obj h.T (by intro z; cases z)⟩
theorem DiskAt.neB (h : DiskAt H C x D p) : (∀ q ∈ p.sr, q.1 ≠ x) ∧ (∀ q ∈ p.wr, q.1 ≠ x ∧ q.1 ≠ p.S ∧ q.1 ≠ p.W ∧ q.2.2.1 ≠ x) :=
  ⟨fun q hq => (ne_of h.obj (h.sr q hq).1 (by intro z; cases z)).symm, fun q hq => ⟨(ne_of h.obj (h.wr q hq).1 (by intro z; cases z)).symm, ne_of (h.wr q hq).1 h.S (by intro z; cases z), ne_of (h.wr q hq).1 h.W (by intro z; cases z), (ne_of h.obj (h.wr q hq).2.1 (by intro z; cases z)).symm⟩⟩
/-- a place gets a block -/
theorem DiskAt.setS (h : DiskAt H C x D p) {k : Nat} {r : Addr} {b : List Int} (hr : H r = some (.lst (b.map V.int))) (rS : r ≠ p.S) (rW : r ≠ p.W) :
    DiskAt (upd H p.S (.lst ((p.sr.map fun q => V.ref q.1).set k (.ref r)))) C x { D with st := D.st.set k b } { p with sr := p.sr.set k (r, b) } := by
  obtain ⟨xS, xW, xT⟩ := h.neS
  obtain ⟨n1, n2⟩ := h.neB
  have mem : ∀ q ∈ p.sr.set k (r, b), q ∈ p.sr ∨ q = (r, b) := fun q hq => List.mem_or_eq_of_mem_set hq
  refine ⟨(upd_ne xS).trans h.obj, upd_same.trans (by rw [List.map_set]), fun q hq => ?_, by rw [List.map_set, h.st], (upd_ne h.SW.symm).trans h.W, fun q hq => ?_, h.wt, (upd_ne h.TS).trans h.T, h.SW, h.TS, h.TW⟩
  · rcases mem q hq with m | rfl
    · obtain ⟨h1, h2, h3⟩ := h.sr q m
      exact ⟨(upd_ne h2).trans h1, h2, h3⟩
    · exact ⟨(upd_ne rS).trans hr, rS, rW⟩
  · obtain ⟨h1, h2, h3, h4⟩ := h.wr q hq
    exact ⟨(upd_ne (n2 q hq).2.1).trans h1, (upd_ne h3).trans h2, h3, h4⟩
theorem all_setS {k : Nat} {r : Addr} {b : List Int} {a : Addr} (m : a ∈ DPl.all { p with sr := p.sr.set k (r, b) } x) : a ∈ p.all x ∨ a = r := by
  rw [mem_all] at m
  rcases m with m | m | m | m | ⟨q, hq, e⟩ | m | m
  · exact .inl (mem_all.mpr (.inl m))
  · exact .inl (mem_all.mpr (.inr (.inl m)))
  · exact .inl (mem_all.mpr (.inr (.inr (.inl m))))
  · exact .inl (mem_all.mpr (.inr (.inr (.inr (.inl m)))))
  · rcases List.mem_or_eq_of_mem_set hq with h | h
    · exact .inl (mem_all.mpr (.inr (.inr (.inr (.inr (.inl ⟨q, h, e⟩))))))
    · subst h
      exact .inr e.symm
  · exact .inl (mem_all.mpr (.inr (.inr (.inr (.inr (.inr (.inl m)))))))
  · exact .inl (mem_all.mpr (.inr (.inr (.inr (.inr (.inr (.inr m)))))))
/-- its fields alone -/
theorem DiskAt.flds (h : DiskAt H C x D p) {c : Int} {a : Option Int} : DiskAt (upd H x (.ins C p.dx (dkFs p.S p.W p.T c (oV a)))) C x { D with cuts := c, after := a } p := by
  obtain ⟨xS, xW, xT⟩ := h.neS
  obtain ⟨n1, n2⟩ := h.neB
  exact ⟨upd_same, (upd_ne xS.symm).trans h.S, fun q hq => ⟨(upd_ne (n1 q hq)).trans (h.sr q hq).1, (h.sr q hq).2⟩, h.st, (upd_ne xW.symm).trans h.W,
    fun q hq => ⟨(upd_ne (n2 q hq).1).trans (h.wr q hq).1, (upd_ne (n2 q hq).2.2.2).trans (h.wr q hq).2.1, (h.wr q hq).2.2⟩, h.wt, (upd_ne xT.symm).trans h.T, h.SW, h.TS, h.TW⟩
/-- another list of what waits, empty -/
theorem DiskAt.setW (h : DiskAt H C x D p) {W' : Addr} (hW : H W' = some (.lst [])) (n : W' ∉ p.all x) : DiskAt (upd H x (.ins C p.dx (dkFs p.S W' p.T D.cuts (oV D.after)))) C x { D with wt := [] } { p with W := W', wr := [] } := by
  obtain ⟨xS, xW, xT⟩ := h.neS
  obtain ⟨n1, n2⟩ := h.neB
  have nx : W' ≠ x := fun e => n (mem_all.mpr (.inl e))
  have nS : W' ≠ p.S := fun e => n (mem_all.mpr (.inr (.inl e)))
  have nT : W' ≠ p.T := fun e => n (mem_all.mpr (.inr (.inr (.inr (.inl e)))))
  exact ⟨upd_same, (upd_ne xS.symm).trans h.S, fun q hq => ⟨(upd_ne (n1 q hq)).trans (h.sr q hq).1, (h.sr q hq).2.1, fun e => n (mem_all.mpr (.inr (.inr (.inr (.inr (.inl ⟨q, hq, e⟩))))))⟩, h.st, (upd_ne nx).trans hW,
    fun q hq => (nomatch hq), rfl, (upd_ne xT.symm).trans h.T, nS.symm, h.TS, nT.symm⟩
theorem all_setW {W' a : Addr} (m : a ∈ DPl.all { p with W := W', wr := [] } x) : a ∈ p.all x ∨ a = W' := by
  rw [mem_all] at m
  rcases m with m | m | m | m | m | ⟨q, hq, _⟩ | ⟨q, hq, _⟩
  · exact .inl (mem_all.mpr (.inl m))
  · exact .inl (mem_all.mpr (.inr (.inl m)))
  · exact .inr m
  · exact .inl (mem_all.mpr (.inr (.inr (.inr (.inl m)))))
  · exact .inl (mem_all.mpr (.inr (.inr (.inr (.inr (.inl m))))))
  · exact nomatch hq
  · exact nomatch hq
/-- one more write -/
theorem DiskAt.putW (h : DiskAt H C x D p) {t r : Addr} {at_ : Int} {b : List Int} (ht : H t = some (.tup [.int at_, .ref r])) (hr : H r = some (.lst (b.map V.int))) (rS : r ≠ p.S) (rW : r ≠ p.W) :
    DiskAt (upd H p.W (.lst ((p.wr.map fun q => V.ref q.1) ++ [.ref t]))) C x { D with wt := D.wt ++ [(at_, b)] } { p with wr := p.wr ++ [(t, at_, r, b)] } := by
  obtain ⟨xS, xW, xT⟩ := h.neS
  obtain ⟨n1, n2⟩ := h.neB
  refine ⟨(upd_ne xW).trans h.obj, (upd_ne h.SW).trans h.S, fun q hq => ⟨(upd_ne (h.sr q hq).2.2).trans (h.sr q hq).1, (h.sr q hq).2⟩, h.st, upd_same.trans (by rw [List.map_append]; rfl), fun q hq => ?_, by rw [List.map_append, h.wt]; rfl, (upd_ne h.TW).trans h.T, h.SW, h.TS, h.TW⟩
  rcases List.mem_append.mp hq with m | m
  · obtain ⟨h1, h2, h3, h4⟩ := h.wr q m
    exact ⟨(upd_ne (n2 q m).2.2.1).trans h1, (upd_ne h4).trans h2, h3, h4⟩
  · rw [List.mem_singleton.mp m]
    exact ⟨(upd_ne (ne_of ht h.W (by intro z; cases z))).trans ht, (upd_ne rW).trans hr, rS, rW⟩
theorem all_putW {t r : Addr} {at_ : Int} {b : List Int} {a : Addr} (m : a ∈ DPl.all { p with wr := p.wr ++ [(t, at_, r, b)] } x) : a ∈ p.all x ∨ a = t ∨ a = r := by
  rw [mem_all] at m
  rcases m with m | m | m | m | m | ⟨q, hq, e⟩ | ⟨q, hq, e⟩
  · exact .inl (mem_all.mpr (.inl m))
  · exact .inl (mem_all.mpr (.inr (.inl m)))
  · exact .inl (mem_all.mpr (.inr (.inr (.inl m))))
  · exact .inl (mem_all.mpr (.inr (.inr (.inr (.inl m)))))
  · exact .inl (mem_all.mpr (.inr (.inr (.inr (.inr (.inl m))))))
  · rcases List.mem_append.mp hq with h | h
    · exact .inl (mem_all.mpr (.inr (.inr (.inr (.inr (.inr (.inl ⟨q, h, e⟩)))))))
    · rw [List.mem_singleton.mp h] at e
      exact .inr (.inl e.symm)
  · rcases List.mem_append.mp hq with h | h
    · exact .inl (mem_all.mpr (.inr (.inr (.inr (.inr (.inr (.inr ⟨q, h, e⟩)))))))
    · rw [List.mem_singleton.mp h] at e
      exact .inr (.inr e.symm)
end
/-- how much of a write a cut leaves -/
def keptOf (t : List Int) (i : Nat) : Nat := (t.getD i 0).toNat
def cutStep (t : List Int) (wt : List (Int × List Int)) (st : List (List Int)) (i : Nat) : List (List Int) :=
  match wt[i]? with
  | none => st
  | some w => st.set w.1.toNat (w.2.take (keptOf t i) ++ (st.getD w.1.toNat []).drop (keptOf t i))
def cutSt (t : List Int) (wt : List (Int × List Int)) (st : List (List Int)) (n : Nat) : List (List Int) := (List.range n).foldl (cutStep t wt) st
theorem cutSt_succ (t : List Int) (wt : List (Int × List Int)) (st : List (List Int)) (n : Nat) : cutSt t wt st (n + 1) = cutStep t wt (cutSt t wt st n) n := by
  unfold cutSt
  rw [List.range_succ, List.foldl_append]
  rfl
def DSt.cutD (D : DSt) (t : List Int) : DSt := { D with st := cutSt t D.wt D.st D.wt.length, wt := [], cuts := D.cuts + 1, after := none }
def flushSt (wt : List (Int × List Int)) (st : List (List Int)) : List (List Int) := wt.foldl (fun st w => st.set w.1.toNat w.2) st
def DSt.flushD (D : DSt) : DSt := { D with st := flushSt D.wt D.st, wt := [] }
/-- what a write or flush meets: the power cut (none), or the schedule goes on -/
def DSt.met (D : DSt) : Option DSt :=
  match D.after with
  | none => some D
  | some n => if n = 0 then none else some { D with after := some (n - 1) }
theorem flush_blk {n : Nat} : ∀ {wt : List (Int × List Int)} {st : List (List Int)}, (∀ b ∈ st, Blk b) → st.length = n → (∀ w ∈ wt, (0 ≤ w.1 ∧ w.1 < (n : Int)) ∧ Blk w.2) → (∀ b ∈ flushSt wt st, Blk b) ∧ (flushSt wt st).length = n
  | [], _, h, l, _ => ⟨h, l⟩
  | w :: r, st, h, l, hw => by
    have h1 := hw w (List.mem_cons_self ..)
    refine flush_blk (wt := r) (st := st.set w.1.toNat w.2) (fun b hb => ?_) (by rw [List.length_set]; exact l) fun v hv => hw v (List.mem_cons_of_mem _ hv)
    rcases List.mem_or_eq_of_mem_set hb with m | m
    · exact h b m
    · rw [m]; exact h1.2
theorem cut_blk {t : List Int} {wt : List (Int × List Int)} {st : List (List Int)} (h : ∀ b ∈ st, Blk b) (hw : ∀ w ∈ wt, (0 ≤ w.1 ∧ w.1 < (st.length : Int)) ∧ Blk w.2) : ∀ n, (∀ b ∈ cutSt t wt st n, Blk b) ∧ (cutSt t wt st n).length = st.length
  | 0 => ⟨h, rfl⟩
  | n + 1 => by
    obtain ⟨h1, h2⟩ := cut_blk h hw n
    rw [cutSt_succ]
    unfold cutStep
    cases e : wt[n]? with
    | none => exact ⟨h1, h2⟩
    | some w =>
      obtain ⟨w1, w2⟩ := hw w (List.mem_of_getElem? e)
      refine ⟨fun b hb => ?_, by rw [List.length_set]; exact h2⟩
      rcases List.mem_or_eq_of_mem_set hb with m | m
      · exact h1 b m
      · have hi : w.1.toNat < (cutSt t wt st n).length := by rw [h2]; omega
        have ho : Blk ((cutSt t wt st n).getD w.1.toNat []) := by
          rw [List.getD_eq_getElem?_getD, List.getElem?_eq_getElem hi]
          exact h1 _ (List.getElem_mem hi)
        rw [m]
        refine ⟨by rw [List.length_append, List.length_take, List.length_drop, w2.1, ho.1]; omega, fun v hv => ?_⟩
        rcases List.mem_append.mp hv with z | z
        · exact w2.2 v (List.mem_of_mem_take z)
        · exact ho.2 v (List.mem_of_mem_drop z)
theorem DSt.Ok.cut {D : DSt} (h : D.Ok) (t : List Int) : (D.cutD t).Ok := by
  obtain ⟨h1, h2⟩ := cut_blk (t := t) h.st h.wt D.wt.length
  exact ⟨by show 8 ≤ (cutSt _ _ _ _).length; rw [h2]; exact h.lo, by show (cutSt _ _ _ _).length ≤ 400; rw [h2]; exact h.hi, h1, fun w hw => (nomatch hw), h.torn, Nat.zero_le _, h.tl⟩
theorem DSt.Ok.flush {D : DSt} (h : D.Ok) : D.flushD.Ok := by
  obtain ⟨h1, h2⟩ := flush_blk h.st rfl h.wt
  exact ⟨by show 8 ≤ (flushSt _ _).length; rw [h2]; exact h.lo, by show (flushSt _ _).length ≤ 400; rw [h2]; exact h.hi, h1, fun w hw => (nomatch hw), h.torn, Nat.zero_le _, h.tl⟩
theorem DSt.Ok.met {D D' : DSt} (h : D.Ok) (e : D.met = some D') : D'.Ok ∧ D'.st = D.st ∧ D'.wt = D.wt ∧ D'.cuts = D.cuts ∧ D'.torn = D.torn := by
  unfold DSt.met at e
  split at e
  · cases e
    exact ⟨h, rfl, rfl, rfl, rfl⟩
  · split at e
    · cases e
    · cases e
      exact ⟨⟨h.lo, h.hi, h.st, h.wt, h.torn, h.few, h.tl⟩, rfl, rfl, rfl, rfl⟩
end LB

set_option maxRecDepth 100000
set_option maxHeartbeats 8000000
namespace LB
open PySem PySem.Spec PyProof.Rows L2
theorem cutV_int (ns : List Int) (lo hi : Option Int) : cutV (ns.map V.int) lo hi = (cutA ns lo hi).map V.int := cutI ns lo hi
theorem ixN_at {n j : Nat} (h : j < n) : ixN n (j : Int) = some j := by
  unfold ixN
  rw [if_pos (Int.natCast_nonneg j), if_pos (by omega), Int.toNat_natCast]
section
variable {P : Program} {w : World} {K : PySem.W.Frag} {mg : Str → Option Value} {base : Heap} {Cd C fI cc cda : Addr}
def spCutP (Cd C : Addr) : Sp := fun vs H Q E => ∃ (x : Addr) (D : DSt) (p : DPl) (a : Addr) (t : List Int), vs = [.ref x, .ref a] ∧ DiskAt H Cd x D p ∧ D.Ok ∧ H a = some (.lst (t.map V.int)) ∧ a ≠ p.S ∧ t.length ≤ 3000 ∧
  (okTorn t = true → ∀ (p' : DPl) (H' : Hp), DiskAt H' Cd x (D.cutD t) p' → FrD p x H H' → NewD p p' x H → Q .non H') ∧ (okTorn t = false → RaisesO C "torn" H E)
theorem scCp : FnScope ["self", "torn", "number", "at", "block", "kept"] ["self", "torn"] (defScope dsCut) := ⟨rfl, rfl, rfl, by decide +kernel, rfl, by decide +kernel, by decide +kernel⟩
theorem ok_cutP {f fT : Addr} {fd fdT : FuncData} (F : Fun K "cut_power" "Disk.cut_power" dsCut f fd) (G : ClsG K Cd) (O : Oor K mg P "OutOfRange" C fI cc cda) (M : NamesG mg) (T : TopG mg) (FT : Fun K "check_torn" "check_torn" sCheckTorn fT fdT) (mT : mg "check_torn" = some (.ref fT)) (bT : Binds K fdT ["torn"] []) :
    FnOk P w K mg base (L2.CX P w) 3 f fd ["self", "torn"] (spCutP Cd C) := by
  have GT : FnOk P w K mg base (L2.CX P w) 2 fT fdT ["torn"] (spCheckT K C) := ok_checkt FT O M T
  have kT := FT.kp
  refine F.okX scCp (fun vs H Q E h => ?_) (fun cdv A outer s H vs Q E hr h => ?_)
  · obtain ⟨x, D, p, a, t, rfl, _⟩ := h
    rfl
  · obtain ⟨x, D, p, a, t, rfl, h, ok, ha, aS, tl, q1, q2⟩ := h
    have cl := G.cl
    have nd := scCp.nd
    refine ⟨_, (pss_cons (ps_expr (pe_call GT (hr.mono (by decide)) rfl mT kT bT .nil (passes_call (takes_of rfl rfl rfl rfl) (fun _ _ _ _ h => h)) (pa_cons (pv 1) pa_nil)))
        (PSs.nox (pss_cons (ps_for PassesOwn.never rfl (pi_enum (by rfl) M.en (pa_cons (pe_fld (pv 0) rfl) pa_nil)) (pg_tup (by rfl) (pgs_cons (pg_name (i := 2) nd rfl (Or.inl rfl)) (pgs_cons (pg_tup (by rfl) (pgs_cons (pg_name (i := 3) nd rfl (Or.inl rfl)) (pgs_cons (pg_name (i := 4) nd rfl (Or.inl rfl)) pgs_nil))) pgs_nil))) (C8.pss_cut (ps_set (i := 5) nd rfl (Or.inl rfl) (pe_ifExp (pt_cmpR op_lt (pv 2) (pe_callB call_len_seq (by rfl) M.len PySem.boot_len (pa_cons (pv 1) pa_nil)) (nomark _)) (pe_ix ix_list (pv 1) (pv 2) (fun _ _ => rfl)) pe_int))
        (pss_one (ps_asg (pe_op op_cat (pe_slice sl_list (pv 4) po_none (po_some (pv 5))) (pe_slice sl_list (pe_ix ix_list (pe_fld (pv 0) rfl) (pv 3) (fun _ _ => rfl)) (po_some (pv 5)) po_none)) (pg_sub (pe_fld (pv 0) rfl) (pv 3) set_list)))))
        (pss_cons (ps_fld (pv 0) (pe_lst pa_nil) rfl)
        (pss_cons (ps_fldaug (pv 0) pe_int in_add)
        (pss_one (ps_fld (pv 0) pe_non rfl))))))), ?_⟩
    refine ⟨_, rfl, a, t, rfl, SqL.of ha, tl, fun g H1 S1 => ?_, q2⟩
    have q1 := q1 g
    clear q2
    have h1 := h.same S1
    have F1 : FrD p x H H1 := FrD.same S1
    have wl : (p.wr.map fun q => V.ref q.1).length = D.wt.length := by rw [← h.wt, List.length_map, List.length_map]
    refine ⟨_, rfl, x, Cd, _, _, _, rfl, h1.obj, cl, G.waiting, rfl, p.W, _, rfl, SqL.of h1.W, ?_⟩
    refine for_it walk_enum (fun j σ H' => ∃ (sr : List (Addr × List Int)) (v2 v3 v4 v5 : Option V), σ = [some (.ref x), some (.ref a), v2, v3, v4, v5] ∧ DiskAt H' Cd x { D with st := cutSt t D.wt D.st j } { p with sr := sr } ∧ FrD p x H H' ∧ NewD p { p with sr := sr } x H ∧ H' a = some (.lst (t.map V.int)))
      ⟨p.sr, _, _, _, _, rfl, h1, F1, NewD.refl, S1 _ _ ha⟩ (fun j σ H' _ ⟨sr, _, _, _, _, _, hd, _⟩ => SqL.of (show H' p.W = some (.lst (p.wr.map fun q => V.ref q.1)) from hd.W)) ?_ ?_
    · rintro j y σ H2 H3 hj ⟨sr, v2, v3, v4, v5, rfl, hd, fr, nw, ha2⟩ ⟨T0, x0, y0, rfl, nT, rfl, e1, e2⟩
      cases e1
      have e2 : (p.wr.map fun q => V.ref q.1)[j]? = some y0 := e2
      rw [List.getElem?_map] at e2
      obtain ⟨q, hq, rfl⟩ := Option.map_eq_some_iff.mp e2
      have hw : D.wt[j]? = some (q.2.1, q.2.2.2) := by rw [← h.wt, List.getElem?_map, hq]; rfl
      obtain ⟨wk, wb⟩ := ok.wt _ (List.mem_of_getElem? hw)
      have S3 := same_new (o := .tup [V.int (j : Nat), .ref q.1]) nT
      have hd3 := hd.same S3
      have ha3 := S3 _ _ ha2
      have fr3 := fr.trans nw (FrD.same S3)
      have hT3 : upd H2 T0 (.tup [V.int (j : Nat), .ref q.1]) T0 = some (.tup [V.int (j : Nat), .ref q.1]) := upd_same
      generalize upd H2 T0 (.tup [V.int (j : Nat), .ref q.1]) = H3 at *
      obtain ⟨hqt, hqb, qS, qW⟩ := hd3.wr q (List.mem_of_getElem? hq)
      refine ⟨T0, _, rfl, SqT.of hT3, rfl, _, _, rfl, _, _, rfl, q.1, _, rfl, SqT.of hqt, rfl, _, _, rfl, _, _, rfl, rfl, rfl, ?_⟩
      refine ⟨fun σ H' => H' = H3 ∧ σ = [some (.ref x), some (.ref a), some (.int (j : Nat)), some (.int q.2.1), some (.ref q.2.2.1), some (.int (keptOf t j : Nat))], ?_, ?_⟩
      · refine ⟨_, rfl, _, rfl, a, _, rfl, .inl (SqL.of ha3), _, _, rfl, rfl, _, rfl, ite2 (fun c => ?_) (fun c => ?_)⟩
        · have c := of_decide_eq_true c
          rw [List.length_map] at c
          have hjt : j < t.length := by omega
          refine ⟨_, rfl, _, rfl, a, _, _, _, rfl, rfl, SqL.of ha3, atI_get hjt, rfl, ?_⟩
          have e : t.getD j 0 = ((keptOf t j : Nat) : Int) := by
            have := List.all_eq_true.mp g (t.getD j 0) (by
              rw [List.getD_eq_getElem?_getD, List.getElem?_eq_getElem hjt]
              exact List.getElem_mem hjt)
            rw [Bool.and_eq_true] at this
            have := of_decide_eq_true this.1
            unfold keptOf
            omega
          rw [e]
          rfl
        · have c : ¬ ((j : Int) < ((t.map V.int).length : Int)) := fun z => c (decide_eq_true z)
          rw [List.length_map] at c
          refine ⟨rfl, ?_⟩
          have e : keptOf t j = 0 := by
            unfold keptOf
            rw [List.getD_eq_getElem?_getD, List.getElem?_eq_none (by omega)]
            rfl
          rw [e]
          rfl
      rintro σ H' ⟨rfl, rfl⟩
      -- the block that stands there
      obtain ⟨cb, cl2⟩ := cut_blk (t := t) ok.st ok.wt j
      have srl : sr.length = D.st.length := by
        have := congrArg List.length hd3.st
        rw [List.length_map] at this
        exact this.trans cl2
      obtain ⟨k, ek⟩ : ∃ k : Nat, q.2.1 = (k : Int) := ⟨q.2.1.toNat, by have := wk.1; show q.2.1 = _; simp only at this; omega⟩
      have hkl : k < sr.length := by have := wk.2; simp only at this; omega
      have hg := List.getElem?_eq_getElem hkl
      generalize sr[k] = q0 at hg
      obtain ⟨r0, b0⟩ := q0
      have hr0 := (hd3.sr _ (List.mem_of_getElem? hg)).1
      have e0 : (cutSt t D.wt D.st j).getD k [] = b0 := by
        have e : sr.map (·.2) = cutSt t D.wt D.st j := hd3.st
        rw [← e, List.getD_eq_getElem?_getD, List.getElem?_map, hg]
        rfl
      have hb0 : Blk b0 := by
        rw [← e0, List.getD_eq_getElem?_getD, List.getElem?_eq_getElem (by rw [cl2]; omega)]
        exact cb _ (List.getElem_mem _)
      rw [ek]
      have k32 : keptOf t j ≤ 32 := by
        unfold keptOf
        by_cases hjt : j < t.length
        · have := List.all_eq_true.mp g (t.getD j 0) (by
            rw [List.getD_eq_getElem?_getD, List.getElem?_eq_getElem hjt]
            exact List.getElem_mem hjt)
          rw [Bool.and_eq_true] at this
          have := of_decide_eq_true this.2
          omega
        · rw [List.getD_eq_getElem?_getD, List.getElem?_eq_none (by omega)]
          decide
      refine ⟨_, rfl, _, rfl, _, rfl, q.2.2.1, _, rfl, SqL.of hqb, fun p1 np1 => ?_⟩
      rw [cutV_int, cutA_head _ _ (by rw [wb.1]; exact k32)]
      have X1 := same_new (o := .lst ((q.2.2.2.take (keptOf t j)).map V.int)) np1
      have h1p : upd H' p1 (.lst ((q.2.2.2.take (keptOf t j)).map V.int)) p1 = some (.lst ((q.2.2.2.take (keptOf t j)).map V.int)) := upd_same
      generalize upd H' p1 (.lst ((q.2.2.2.take (keptOf t j)).map V.int)) = H4 at X1 h1p
      have hd4 := hd3.same X1
      refine ⟨_, rfl, x, Cd, _, _, _, rfl, hd4.obj, cl, G.stored, rfl, _, rfl, p.S, _, _, _, rfl, rfl, SqL.of hd4.S, atI_nat (j := k) (by rw [List.getElem?_map, hg]; rfl), _, rfl, _, rfl, r0, _, rfl, SqL.of (X1 _ _ hr0), fun p2 np2 => ?_⟩
      rw [cutV_int, cutA_tail _ _ (by rw [hb0.1]; exact k32)]
      refine ⟨p1, p2, _, _, rfl, rfl, same_new np2 _ _ h1p, upd_same, ?_, fun p3 np3 => ?_⟩
      · rw [List.length_map, List.length_map, List.length_take, List.length_drop, wb.1, hb0.1]
        exact Nat.le_trans (m := 64) (by omega) (by decide)
      rw [← List.map_append]
      have X3 := (X1.trans (same_new (o := .lst ((b0.drop (keptOf t j)).map V.int)) np2)).trans (same_new (o := .lst ((q.2.2.2.take (keptOf t j) ++ b0.drop (keptOf t j)).map V.int)) np3)
      have h3p : upd (upd H4 p2 (.lst ((b0.drop (keptOf t j)).map V.int))) p3 (.lst ((q.2.2.2.take (keptOf t j) ++ b0.drop (keptOf t j)).map V.int)) p3 = some (.lst ((q.2.2.2.take (keptOf t j) ++ b0.drop (keptOf t j)).map V.int)) := upd_same
      have n3 : H' p3 = none := same_none (X1.trans (same_new np2)) np3
      generalize upd (upd H4 p2 (.lst ((b0.drop (keptOf t j)).map V.int))) p3 (.lst ((q.2.2.2.take (keptOf t j) ++ b0.drop (keptOf t j)).map V.int)) = H5 at X3 h3p
      have hd5 := hd3.same X3
      have p3n := hd3.new n3
      refine ⟨_, rfl, x, Cd, _, _, _, rfl, hd5.obj, cl, G.stored, rfl, _, rfl, p.S, _, _, k, rfl, rfl, hd5.S, ixN_at (by rw [List.length_map]; exact hkl), ?_⟩
      have p3S : p3 ≠ p.S := fun e => p3n (mem_all.mpr (.inr (.inl e)))
      have p3W : p3 ≠ p.W := fun e => p3n (mem_all.mpr (.inr (.inr (.inl e))))
      have hd6 := hd5.setS (k := k) h3p p3S p3W
      have es : cutSt t D.wt D.st (j + 1) = (cutSt t D.wt D.st j).set k (q.2.2.2.take (keptOf t j) ++ b0.drop (keptOf t j)) := by
        rw [cutSt_succ]
        unfold cutStep
        rw [hw]
        show (cutSt t D.wt D.st j).set q.2.1.toNat (q.2.2.2.take (keptOf t j) ++ ((cutSt t D.wt D.st j).getD q.2.1.toNat []).drop (keptOf t j)) = _
        rw [ek, Int.toNat_natCast, e0]
      refine ⟨sr.set k (p3, q.2.2.2.take (keptOf t j) ++ b0.drop (keptOf t j)), _, _, _, _, rfl, ?_, ?_, ?_, ?_⟩
      · rw [es]
        exact hd6
      · have fr5 : FrD p x H H5 := fr3.trans nw (FrD.same X3)
        exact fr5.trans nw (frD_at (p := { p with sr := sr }) (mem_all.mpr (.inr (.inl rfl))))
      · intro c hc
        rcases all_setS (p := { p with sr := sr }) hc with m | m
        · exact nw c m
        · rw [m]
          by_cases i : p3 ∈ p.all x
          · exact .inl i
          · cases e : H p3 with
            | none => exact .inr rfl
            | some o => rw [fr3 p3 o i e] at n3; cases n3
      · rw [upd_ne aS]
        exact X3 _ _ ha3
    · rintro σ H2 ⟨sr, v2, v3, v4, v5, rfl, hd, fr, nw, ha2⟩
      rw [wl] at hd
      refine ⟨(by show 0 ≤ sizeLine; decide), fun W' nW => ?_⟩
      have X1 := same_new (o := .lst ([] : List V)) nW
      have hd1 := hd.same X1
      have nWa := hd.new nW
      refine ⟨_, rfl, x, Cd, _, _, rfl, hd1.obj, cl, G.waiting, (by show 5 < _; decide), ?_⟩
      have e1 : putF "_waiting" (V.ref W') (dkFs p.S p.W p.T D.cuts (oV D.after)) = dkFs p.S W' p.T D.cuts (oV D.after) := rfl
      rw [e1]
      have hd2 := hd1.setW (W' := W') upd_same nWa
      have mx : x ∈ DPl.all { p with sr := sr } x := mem_all.mpr (.inl rfl)
      have fr2 : FrD p x H (upd (upd H2 W' (.lst [])) x (.ins Cd p.dx (dkFs p.S W' p.T D.cuts (oV D.after)))) := (fr.trans nw (FrD.same X1)).trans nw (frD_at mx)
      generalize upd (upd H2 W' (.lst [])) x (.ins Cd p.dx (dkFs p.S W' p.T D.cuts (oV D.after))) = H3 at hd2 fr2
      refine ⟨_, rfl, x, Cd, _, _, _, rfl, hd2.obj, cl, G.cuts, rfl, _, _, rfl, rfl, _, _, hd2.obj, (by show 5 < _; decide), ?_⟩
      have nw2 : NewD p { p with sr := sr, W := W', wr := [] } x H := fun c hc => by
        rcases all_setW (p := { p with sr := sr }) hc with m | m
        · exact nw c m
        · rw [m]
          by_cases i : W' ∈ p.all x
          · exact .inl i
          · cases e : H W' with
            | none => exact .inr rfl
            | some o => rw [fr W' o i e] at nW; cases nW
      have mx2 : x ∈ DPl.all { p with sr := sr, W := W', wr := [] } x := mem_all.mpr (.inl rfl)
      have hd3 := hd2.flds (c := D.cuts + 1) (a := D.after)
      refine ⟨_, rfl, x, Cd, _, _, rfl, hd3.obj, cl, G.after, (by show 5 < _; decide), ?_⟩
      refine q1 { p with sr := sr, W := W', wr := [] } _ (hd3.flds (c := D.cuts + 1) (a := none)) ?_ nw2
      exact (fr2.trans nw2 (frD_at mx2)).trans nw2 (frD_at mx2)
def spMeet (Cd Cp : Addr) : Sp := fun vs H Q E => ∃ (x : Addr) (D : DSt) (p : DPl), vs = [.ref x] ∧ DiskAt H Cd x D p ∧ D.Ok ∧ (∀ D', D.met = some D' → ∀ H', DiskAt H' Cd x D' p → FrD p x H H' → Q .non H') ∧
  (D.met = none → ∀ (p' : DPl) (H' : Hp), DiskAt H' Cd x (D.cutD D.torn) p' → FrD p x H H' → NewD p p' x H → E (.ref Cp) none H')
/-- what the top says of a class of errors that are made with one text -/
structure OwnE (K : PySem.W.Frag) (mg : Str → Option Value) (n : Str) (Cp : Addr) : Prop where
  g : mg n = some (.ref Cp)
  x : PySem.W.excIn K Cp [.type "ValueError", .type "Exception", .type "BaseException", .type "object"] "ValueError.__new__" = true
  k : PySem.W.keepIn K (.ref Cp) = true
  b : PySem.W.subIn K (.ref Cp) (.type "BaseException") = some true
  t : PySem.W.typeIn K (.ref Cp) = some (.type "type")
theorem scMe : FnScope ["self"] ["self"] (defScope dsMeet) := ⟨rfl, rfl, rfl, by decide +kernel, rfl, by decide +kernel, by decide +kernel⟩
theorem ok_meet {Cp f fC fT : Addr} {fd fdC fdT : FuncData} (F : Fun K "_meet_cut" "Disk._meet_cut" dsMeet f fd) (G : ClsG K Cd) (O : Oor K mg P "OutOfRange" C fI cc cda) (N : OwnE K mg "PowerCut" Cp) (M : NamesG mg) (T : TopG mg)
    (FC : Fun K "cut_power" "Disk.cut_power" dsCut fC fdC) (hC : Meth K Cd "cut_power" fC) (bC : Binds K fdC ["self", "torn"] []) (FT : Fun K "check_torn" "check_torn" sCheckTorn fT fdT) (mT : mg "check_torn" = some (.ref fT)) (bT : Binds K fdT ["torn"] []) :
    FnOk P w K mg base (L2.CX P w) 4 f fd ["self"] (spMeet Cd Cp) := by
  have GC : FnOk P w K mg base (L2.CX P w) 3 fC fdC ["self", "torn"] (spCutP Cd C) := ok_cutP FC G O M T FT mT bT
  refine F.okX scMe (fun vs H Q E h => ?_) (fun cdv A outer s H vs Q E hr h => ?_)
  · obtain ⟨x, D, p, rfl, _⟩ := h
    rfl
  · obtain ⟨x, D, p, rfl, h, ok, q1, q2⟩ := h
    have cl := G.cl
    have nd := scMe.nd
    refine ⟨_, (pss_cons (ps_if (pt_cmpR op_isN (pe_fld (pv 0) rfl) pe_non (nomark _)) (pss_one ps_retN) pss_nil)
        (pss_cons (ps_if (pt_cmpR op_eq (pe_fld (pv 0) rfl) pe_int (nomark _)) (pss_cons (ps_expr (pe_meth (pv 0) cl hC GC (hr.mono (by decide)) bC .nil (passes_call (takes_of rfl rfl rfl rfl) (fun _ _ _ _ h => h)) (pa_cons (pe_fld (pv 0) rfl) pa_nil)))
        (pss_one (ps_raise (W := fun cls d _ H' => E cls d H') rfl (takes_of rfl rfl rfl rfl) (pmk_own PySem.F.excBase_ValueError N.x N.g N.k (raises_own N.b N.t) rfl)))) pss_nil)
        (pss_one (ps_fldaug (pv 0) pe_int in_sub)))), ?_⟩
    refine ⟨_, rfl, x, Cd, _, _, _, rfl, h.obj, cl, G.after, rfl, ?_⟩
    have okT : okTorn D.torn = true := List.all_eq_true.mpr fun m hm => by
      obtain ⟨h1, h2⟩ := ok.torn m hm
      rw [decide_eq_true h1, decide_eq_true h2]
      rfl
    have mx : x ∈ p.all x := mem_all.mpr (.inl rfl)
    cases ea : D.after with
    | none =>
      have em : D.met = some D := by unfold DSt.met; rw [ea]
      exact ⟨rfl, _, rfl, iteT (q1 D em H h (FrD.same (Same.refl H)))⟩
    | some n =>
      refine ⟨rfl, _, rfl, iteF ⟨_, rfl, x, Cd, _, _, _, rfl, h.obj, cl, G.after, rfl, ?_⟩⟩
      rw [ea]
      refine ⟨rfl, _, rfl, ite_int (fun e => ?_) (fun e => ?_)⟩
      · have em : D.met = none := by unfold DSt.met; rw [ea]; exact if_pos e
        refine ⟨_, rfl, x, _, _, rfl, h.obj, rfl, _, rfl, x, Cd, _, _, _, rfl, h.obj, cl, G.torn, rfl, x, D, p, p.T, D.torn, rfl, h, ok, h.T, h.TS, ok.tl, fun _ p' H' d f n => q2 em p' H' d f n, fun bad => ?_⟩
        rw [okT] at bad
        cases bad
      · have em : D.met = some { D with after := some (n - 1) } := by unfold DSt.met; rw [ea]; exact if_neg e
        refine ⟨_, rfl, x, Cd, _, _, _, rfl, h.obj, cl, G.after, (by rw [ea]; rfl), _, _, rfl, rfl, _, _, h.obj, (by show 5 < _; decide), ?_⟩
        exact q1 _ em _ (h.flds (c := D.cuts) (a := some (n - 1))) (frD_at mx)
def spFlush (Cd Cp : Addr) : Sp := fun vs H Q E => ∃ (x : Addr) (D : DSt) (p : DPl), vs = [.ref x] ∧ DiskAt H Cd x D p ∧ D.Ok ∧ (∀ D', D.met = some D' → ∀ (p' : DPl) (H' : Hp), DiskAt H' Cd x D'.flushD p' → FrD p x H H' → NewD p p' x H → Q .non H') ∧
  (D.met = none → ∀ (p' : DPl) (H' : Hp), DiskAt H' Cd x (D.cutD D.torn) p' → FrD p x H H' → NewD p p' x H → E (.ref Cp) none H')
theorem scFl : FnScope ["self", "at", "block"] ["self"] (defScope dsFlush) := ⟨rfl, rfl, rfl, by decide +kernel, rfl, by decide +kernel, by decide +kernel⟩
theorem ok_flush {Cp f fM : Addr} {fd fdM : FuncData} (F : Fun K "flush" "Disk.flush" dsFlush f fd) (G : ClsG K Cd) (GM : FnOk P w K mg base (L2.CX P w) 4 fM fdM ["self"] (spMeet Cd Cp)) (hM : Meth K Cd "_meet_cut" fM) (bM : Binds K fdM ["self"] []) :
    FnOk P w K mg base (L2.CX P w) 5 f fd ["self"] (spFlush Cd Cp) := by
  refine F.okX scFl (fun vs H Q E h => ?_) (fun cdv A outer s H vs Q E hr h => ?_)
  · obtain ⟨x, D, p, rfl, _⟩ := h
    rfl
  · obtain ⟨x, D, p, rfl, h, ok, q1, q2⟩ := h
    have cl := G.cl
    have nd := scFl.nd
    refine ⟨_, (pss_cons (ps_expr (pe_meth0 (pv 0) cl hM GM (hr.mono (by decide)) bM .nil (passes_call (takes_of rfl rfl rfl rfl) (fun _ _ _ _ h => h))))
        (PSs.nox (pss_cons (ps_for PassesOwn.never rfl (pi_list (pe_fld (pv 0) rfl)) (pg_tup (by rfl) (pgs_cons (pg_name (i := 1) nd rfl (Or.inl rfl)) (pgs_cons (pg_name (i := 2) nd rfl (Or.inl rfl)) pgs_nil))) (pss_one (ps_asg (pv 2) (pg_sub (pe_fld (pv 0) rfl) (pv 1) set_list))))
        (pss_one (ps_fld (pv 0) (pe_lst pa_nil) rfl))))), ?_⟩
    refine ⟨_, rfl, x, _, _, rfl, h.obj, rfl, x, D, p, rfl, h, ok, fun D' em H1 h1 F1 => ?_, q2⟩
    have q1 := q1 D' em
    clear q2
    obtain ⟨ok', eS, eW, eC, eT⟩ := ok.met em
    have wl : (p.wr.map fun q => V.ref q.1).length = D'.wt.length := by rw [← h1.wt, List.length_map, List.length_map]
    refine ⟨_, rfl, x, Cd, _, _, _, rfl, h1.obj, cl, G.waiting, rfl, p.W, rfl, ⟨_, SqL.of h1.W⟩, ?_⟩
    refine for_list (K := K) (xs := p.wr.map fun q => V.ref q.1) (fun j σ H' => ∃ (sr : List (Addr × List Int)) (v1 v2 : Option V), σ = [some (.ref x), v1, v2] ∧ DiskAt H' Cd x { D' with st := flushSt (D'.wt.take j) D'.st } { p with sr := sr } ∧ FrD p x H H' ∧ NewD p { p with sr := sr } x H)
      ⟨p.sr, _, _, rfl, h1, F1, NewD.refl⟩ (fun j σ H' _ ⟨sr, _, _, _, hd, _⟩ => SqL.of (show H' p.W = some (.lst (p.wr.map fun q => V.ref q.1)) from hd.W)) ?_ ?_
    · rintro j y σ H2 hy ⟨sr, v1, v2, rfl, hd, fr, nw⟩
      rw [List.getElem?_map] at hy
      obtain ⟨q, hq, rfl⟩ := Option.map_eq_some_iff.mp hy
      have hw : D'.wt[j]? = some (q.2.1, q.2.2.2) := by rw [← h1.wt, List.getElem?_map, hq]; rfl
      obtain ⟨wk, wb⟩ := ok'.wt _ (List.mem_of_getElem? hw)
      obtain ⟨hqt, hqb, qS, qW⟩ := hd.wr q (List.mem_of_getElem? hq)
      obtain ⟨cb, cl2⟩ := flush_blk (wt := D'.wt.take j) ok'.st rfl fun w hw => ok'.wt w (List.mem_of_mem_take hw)
      have srl : sr.length = D'.st.length := by
        have := congrArg List.length hd.st
        rw [List.length_map] at this
        exact this.trans cl2
      obtain ⟨k, ek⟩ : ∃ k : Nat, q.2.1 = (k : Int) := ⟨q.2.1.toNat, by have := wk.1; show q.2.1 = _; simp only at this; omega⟩
      have hkl : k < sr.length := by have := wk.2; simp only at this; omega
      refine ⟨q.1, _, rfl, SqT.of hqt, rfl, _, _, rfl, _, _, rfl, rfl, ?_⟩
      rw [ek]
      refine ⟨_, rfl, _, rfl, x, Cd, _, _, _, rfl, hd.obj, cl, G.stored, rfl, _, rfl, p.S, _, _, k, rfl, rfl, hd.S, ixN_at (by rw [List.length_map]; exact hkl), ?_⟩
      have es : flushSt (D'.wt.take (j + 1)) D'.st = (flushSt (D'.wt.take j) D'.st).set k q.2.2.2 := by
        rw [takeS hw]
        unfold flushSt
        rw [List.foldl_append]
        show List.set (List.foldl _ _ _) q.2.1.toNat q.2.2.2 = _
        rw [ek, Int.toNat_natCast]
      refine ⟨sr.set k (q.2.2.1, q.2.2.2), _, _, rfl, ?_, ?_, ?_⟩
      · rw [es]
        exact hd.setS (k := k) hqb qS qW
      · exact fr.trans nw (frD_at (p := { p with sr := sr }) (mem_all.mpr (.inr (.inl rfl))))
      · intro c hc
        rcases all_setS (p := { p with sr := sr }) hc with m | m
        · exact nw c m
        · rw [m]
          exact .inl (mem_all.mpr (.inr (.inr (.inr (.inr (.inr (.inr ⟨q, List.mem_of_getElem? hq, rfl⟩)))))))
    · rintro σ H2 ⟨sr, v1, v2, rfl, hd, fr, nw⟩
      rw [wl, List.take_length] at hd
      refine ⟨(by show 0 ≤ sizeLine; decide), fun W' nW => ?_⟩
      have X1 := same_new (o := .lst ([] : List V)) nW
      have hd1 := hd.same X1
      have nWa := hd.new nW
      refine ⟨_, rfl, x, Cd, _, _, rfl, hd1.obj, cl, G.waiting, (by show 5 < _; decide), ?_⟩
      have nw2 : NewD p { p with sr := sr, W := W', wr := [] } x H := fun c hc => by
        rcases all_setW (p := { p with sr := sr }) hc with m | m
        · exact nw c m
        · rw [m]
          by_cases i : W' ∈ p.all x
          · exact .inl i
          · cases e : H W' with
            | none => exact .inr rfl
            | some o => rw [fr W' o i e] at nW; cases nW
      have mx : x ∈ DPl.all { p with sr := sr } x := mem_all.mpr (.inl rfl)
      exact q1 { p with sr := sr, W := W', wr := [] } _ (hd1.setW (W' := W') upd_same nWa) ((fr.trans nw (FrD.same X1)).trans nw (frD_at mx)) nw2
def spWriteM (K : PySem.W.Frag) (Cd C Cp : Addr) : Sp := fun vs H Q E => ∃ (x : Addr) (D : DSt) (p : DPl) (at_ : Int) (r : Addr) (b : List Int), vs = [.ref x, .int at_, .ref r] ∧ DiskAt H Cd x D p ∧ D.Ok ∧ H r = some (.lst (b.map V.int)) ∧ r ∉ p.all x ∧ b.length ≤ 3000 ∧ D.wt.length < 3000 ∧
  (0 ≤ at_ ∧ at_ < (D.st.length : Int) → okBlock b = true → ∀ D', D.met = some D' → ∀ (p' : DPl) (H' : Hp), DiskAt H' Cd x { D' with wt := D'.wt ++ [(at_, b)] } p' → FrD p x H H' → NewD p p' x H → Q .non H') ∧
  (0 ≤ at_ ∧ at_ < (D.st.length : Int) → okBlock b = true → D.met = none → ∀ (p' : DPl) (H' : Hp), DiskAt H' Cd x (D.cutD D.torn) p' → FrD p x H H' → NewD p p' x H → E (.ref Cp) none H') ∧
  (¬ (0 ≤ at_ ∧ at_ < (D.st.length : Int)) → RaisesO C "at" H E) ∧ (0 ≤ at_ ∧ at_ < (D.st.length : Int) → okBlock b = false → RaisesO C "block" H E)
theorem scWr : FnScope ["self", "at", "block", "byte"] ["self", "at", "block"] (defScope dsWrite) := ⟨rfl, rfl, rfl, by decide +kernel, rfl, by decide +kernel, by decide +kernel⟩
theorem ok_writeM {Cp f fM fP : Addr} {fd fdM fdP : FuncData} (F : Fun K "write" "Disk.write" dsWrite f fd) (G : ClsG K Cd) (O : Oor K mg P "OutOfRange" C fI cc cda) (M : NamesG mg) (T : TopG mg) (GM : FnOk P w K mg base (L2.CX P w) 4 fM fdM ["self"] (spMeet Cd Cp)) (hM : Meth K Cd "_meet_cut" fM) (bM : Binds K fdM ["self"] [])
    (FP : Fun K "_check_place" "Disk._check_place" dsPlace fP fdP) (hP : Meth K Cd "_check_place" fP) (bP : Binds K fdP ["self", "at"] []) : FnOk P w K mg base (L2.CX P w) 5 f fd ["self", "at", "block"] (spWriteM K Cd C Cp) := by
  have GP : FnOk P w K mg base (L2.CX P w) 2 fP fdP ["self", "at"] (spPlace Cd C) := ok_place FP G O M
  obtain ⟨t1, hb⟩ := T.blk
  obtain ⟨t2, hy⟩ := T.byte
  refine F.okX scWr (fun vs H Q E h => ?_) (fun cdv A outer s H vs Q E hr h => ?_)
  · obtain ⟨x, D, p, at_, r, b, rfl, _⟩ := h
    rfl
  · obtain ⟨x, D, p, at_, r, b, rfl, h, ok, hr0, rN, bl, few, q1, q2, q3, q4⟩ := h
    have cl := G.cl
    have nd := scWr.nd
    refine ⟨_, (pss_cons (ps_expr (pe_meth (pv 0) cl hP GP (hr.mono (by decide)) bP .nil (passes_call (takes_of rfl rfl rfl rfl) (fun _ _ _ _ h => h)) (pa_cons (pv 1) pa_nil)))
        (pss_cons (ps_if (PW.pt (pw_or (pt_cmpR op_ne (pe_callB call_len_seq (by rfl) M.len PySem.boot_len (pa_cons (pv 2) pa_nil)) (pe_glob (v := .int 32) rfl hb ⟨_, rfl⟩) (nomark _)) (pw_or1 (pt_not (pt_val (pe_callB (cr_all rfl) (by rfl) M.all (by decide +kernel) (pa_cons (pe_lc (own := [("byte", 3)]) (g := (gName 3)) rfl nd (pi_list (pv 2)) (blkOk_by (N := ["self", "at", "block", "byte"]) (sc := (defScope dsWrite)) (by decide +kernel)) (fun _ _ _ _ _ => (pg_name (i := 3) nd rfl (Or.inl rfl))) (fun _ _ _ _ _ => pts_nil) (fun _ _ _ _ _ => (pe_chain op_le op_le pe_int (pv 3) (pe_glob (v := .int 255) rfl hy ⟨_, rfl⟩)))) pa_nil))))))) (pss_one (ps_raiseErr (W := fun cls d _ H' => E cls d H') rfl O hr (takes_of rfl rfl rfl rfl) (pa_cons pe_str pa_nil) rfl (by decide))) pss_nil)
        (pss_cons (ps_expr (pe_meth0 (pv 0) cl hM GM (hr.mono (by decide)) bM .nil (passes_call (takes_of rfl rfl rfl rfl) (fun _ _ _ _ h => h))))
        (pss_one (ps_expr (pe_bm PySem.F.plainAttrs_list PySem.F.slot_list_append PySem.F.type_list_append mt_append (pe_fld (pv 0) rfl) (pa_cons (pe_tup (pa_cons (pv 1) (pa_cons (pe_callTy call_list_of (by rfl) M.list (by decide +kernel) (pa_cons (pv 2) pa_nil)) pa_nil))) pa_nil))))))), ?_⟩
    refine ⟨_, rfl, x, _, _, rfl, h.obj, rfl, _, rfl, x, D, p, at_, rfl, h, fun ha => ?_, q3⟩
    have q1 := q1 ha
    have q2 := q2 ha
    have q4 := q4 ha
    clear q3
    refine ⟨_, rfl, r, _, rfl, .inl (SqL.of hr0), rfl, _, rfl, ite2 (fun c => ?_) (fun c => ?_)⟩
    · have c := bn c
      rw [dec_int, List.length_map] at c
      have c := of_decide_eq_false c
      refine ⟨"block", rfl, by decide, fun d hd => q4 ?_ H d (Same.refl H) hd⟩
      unfold okBlock
      rw [decide_eq_false (show ¬ b.length = 32 by omega)]
      rfl
    have c := bp c
    rw [dec_int, List.length_map] at c
    have c := of_decide_eq_true c
    have b32 : b.length = 32 := by omega
    refine ⟨_, rfl, r, rfl, ⟨_, SqL.of hr0⟩, fun D2 nD2 => ?_⟩
    refine lc_list (K := K) (xs := b.map V.int) (fun j H' => Same H H' ∧ H' D2 = some (.lst ((b.take j).map fun m => V.bl (decide (0 ≤ m) && decide (m ≤ 255))))) ⟨same_new nD2, upd_same⟩ (fun j H' _ h => sqL_same h.1 (SqL.of hr0)) ?_ ?_
    · rintro j y H1 hy ⟨S1, hD⟩
      obtain ⟨m, hm, rfl⟩ := map_at hy
      have put : ∀ z : Bool, z = (decide (0 ≤ m) && decide (m ≤ 255)) → Same H (upd H1 D2 (.lst (((b.take j).map fun m => V.bl (decide (0 ≤ m) && decide (m ≤ 255))) ++ [V.bl z]))) ∧ upd H1 D2 (.lst (((b.take j).map fun m => V.bl (decide (0 ≤ m) && decide (m ≤ 255))) ++ [V.bl z])) D2 = some (.lst ((b.take (j + 1)).map fun m => V.bl (decide (0 ≤ m) && decide (m ≤ 255)))) := fun z hz =>
        ⟨same_upd S1 nD2, by rw [takeS hm, List.map_append, hz]; exact upd_same⟩
      have len : ((b.take j).map fun m => V.bl (decide (0 ≤ m) && decide (m ≤ 255))).length < sizeLine := by
        rw [List.length_map, List.length_take]
        exact small_line (by omega)
      refine ⟨rfl, _, rfl, _, _, rfl, rfl, _, rfl, ite2 (fun c1 => ?_) (fun c1 => ?_)⟩
      · have c1 : decide (0 ≤ m) = true := c1
        exact ⟨_, _, rfl, rfl, _, hD, len, put _ (by rw [c1, Bool.true_and])⟩
      · have c1 : decide (0 ≤ m) = false := Bool.eq_false_iff.mpr c1
        exact ⟨_, hD, len, put _ (by rw [c1, Bool.false_and])⟩
    rintro H1 ⟨S1, hD⟩
    rw [List.length_map, List.take_length] at hD
    refine ⟨D2, b.map fun m => decide (0 ≤ m) && decide (m ≤ 255), rfl, SqL.of (by rw [hD, List.map_map]; rfl), ?_⟩
    rw [all_map]
    have eo : okBlock b = b.all fun m => decide (0 ≤ m) && decide (m ≤ 255) := by
      unfold okBlock
      rw [decide_eq_true b32, Bool.true_and]
    rw [← eo]
    refine ⟨_, rfl, ite2 (fun c2 => ?_) (fun c2 => ?_)⟩
    · exact ⟨"block", rfl, by decide, fun d hd => q4 (bn c2) H1 d S1 hd⟩
    have c2 := bp c2
    have h1 := h.same S1
    have nw1 : ∀ {p'' : DPl}, NewD p p'' x H1 → NewD p p'' x H := fun n c hc => by
      rcases n c hc with m | m
      · exact .inl m
      · exact .inr (same_none S1 m)
    refine ⟨_, rfl, x, _, _, rfl, h1.obj, rfl, x, D, p, rfl, h1, ok, fun D' em H3 h3 F3 => ?_, fun em p' H' d f n => q2 c2 em p' H' d ((FrD.same S1).trans NewD.refl f) (nw1 n)⟩
    have fr3 := (FrD.same (p := p) (x := x) S1).trans NewD.refl F3
    have hr3 := fr3 r _ rN hr0
    obtain ⟨ok', eS, eW, eC, eT⟩ := ok.met em
    refine ⟨_, rfl, x, Cd, _, _, _, rfl, h3.obj, cl, G.waiting, rfl, .inl ⟨rfl, _, SqL.of h3.W⟩, _, rfl, _, rfl, r, _, rfl, .inl (SqL.of hr3), fun l nl => ⟨(by show 2 ≤ sizeLine; decide), fun t nt => ?_⟩⟩
    have X1 := same_new (o := .lst (b.map V.int)) nl
    have X2 := same_new (o := .tup [V.int at_, .ref l]) nt
    have X := X1.trans X2
    have hl : upd (upd H3 l (.lst (b.map V.int))) t (.tup [V.int at_, .ref l]) l = some (.lst (b.map V.int)) := X2 _ _ upd_same
    have ht : upd (upd H3 l (.lst (b.map V.int))) t (.tup [V.int at_, .ref l]) t = some (.tup [V.int at_, .ref l]) := upd_same
    have nt3 : H3 t = none := same_none X1 nt
    generalize upd (upd H3 l (.lst (b.map V.int))) t (.tup [V.int at_, .ref l]) = H4 at X hl ht
    have h4 := h3.same X
    have ln := h3.new nl
    have lS : l ≠ p.S := fun e => ln (mem_all.mpr (.inr (.inl e)))
    have lW : l ≠ p.W := fun e => ln (mem_all.mpr (.inr (.inr (.inl e))))
    have fr4 := fr3.trans NewD.refl (FrD.same X)
    refine ⟨p.W, _, _, rfl, rfl, h4.W, ?_, ?_⟩
    · rw [List.length_map, ← List.length_map (f := fun q => (q.2.1, q.2.2.2)), h4.wt, eW]
      exact small_line (by omega)
    refine q1 c2 D' em _ _ (h4.putW ht hl lS lW) (fr4.trans NewD.refl (frD_at (mem_all.mpr (.inr (.inr (.inl rfl)))))) fun c hc => ?_
    have none_ : ∀ a, H3 a = none → a ∈ p.all x ∨ H a = none := fun a n => by
      by_cases i : a ∈ p.all x
      · exact .inl i
      · cases e : H a with
        | none => exact .inr rfl
        | some o => rw [fr3 a o i e] at n; cases n
    rcases all_putW hc with m | rfl | rfl
    · exact .inl m
    · exact none_ _ nt3
    · exact none_ _ nl
/-- a new disk -/
def D0 (n : Nat) : DSt := ⟨List.replicate n (List.replicate 32 0), [], 0, none, []⟩
theorem D0.ok {n : Nat} (h : 8 ≤ n ∧ n ≤ 400) : (D0 n).Ok := by
  refine ⟨by show 8 ≤ (List.replicate _ _).length; rw [List.length_replicate]; exact h.1, by show (List.replicate _ _).length ≤ 400; rw [List.length_replicate]; exact h.2, fun b hb => ?_, fun w hw => (nomatch hw), fun t ht => (nomatch ht), Nat.zero_le _, Nat.zero_le _⟩
  rw [(List.mem_replicate.mp hb).2]
  exact ⟨List.length_replicate, fun v hv => by rw [(List.mem_replicate.mp hv).2]; decide⟩
def spInitD (Cd C : Addr) : Sp := fun vs H Q E => ∃ (x dx : Addr) (n : Int), vs = [.ref x, .int n] ∧ H x = some (.ins Cd dx []) ∧ (8 ≤ n ∧ n ≤ 400 → ∀ (p : DPl) (H' : Hp), (∀ b o, b ≠ x → H b = some o → H' b = some o) → DiskAt H' Cd x (D0 n.toNat) p → (∀ a ∈ p.all x, a = x ∨ H a = none) → Q .non H') ∧ (¬ (8 ≤ n ∧ n ≤ 400) → RaisesO C "blocks" H E)
theorem scIn : FnScope ["self", "blocks", "_"] ["self", "blocks"] (defScope dsInit) := ⟨rfl, rfl, rfl, by decide +kernel, rfl, by decide +kernel, by decide +kernel⟩
theorem ok_initD {f : Addr} {fd : FuncData} (F : Fun K "__init__" "Disk.__init__" dsInit f fd) (G : ClsG K Cd) (O : Oor K mg P "OutOfRange" C fI cc cda) (M : NamesG mg) (T : TopG mg) : FnOk P w K mg base (L2.CX P w) 2 f fd ["self", "blocks"] (spInitD Cd C) := by
  obtain ⟨t1, hb⟩ := T.blk
  obtain ⟨t2, hm⟩ := T.most
  obtain ⟨t3, hl⟩ := T.least
  refine F.okX scIn (fun vs H Q E h => ?_) (fun cdv A outer s H vs Q E hr h => ?_)
  · obtain ⟨x, dx, n, rfl, _⟩ := h
    rfl
  · obtain ⟨x, dx, n, rfl, hx, q1, q2⟩ := h
    have cl := G.cl
    have nd := scIn.nd
    refine ⟨_, (pss_cons (ps_if (pt_not (pt_chain op_le op_le (pe_glob (v := .int 8) rfl hl ⟨_, rfl⟩) (pv 1) (pe_glob (v := .int 400) rfl hm ⟨_, rfl⟩))) (pss_one (ps_raiseErr (W := fun cls d _ H' => E cls d H') rfl O hr (takes_of rfl rfl rfl rfl) (pa_cons pe_str pa_nil) rfl (by decide))) pss_nil)
        (PSs.nox (pss_cons (ps_fld (pv 0) (pe_lc (own := [("_", 2)]) (g := (gName 2)) rfl nd (pi_range1 (by rfl) M.range (pa_cons (pv 1) pa_nil)) (blkOk_by (N := ["self", "blocks", "_"]) (sc := (defScope dsInit)) (by decide +kernel)) (fun _ _ _ _ _ => (pg_name (i := 2) nd rfl (Or.inl rfl))) (fun _ _ _ _ _ => pts_nil) (fun _ _ _ _ _ => (pe_op op_rep (pe_lst (pa_cons pe_int pa_nil)) (pe_glob (v := .int 32) rfl hb ⟨_, rfl⟩)))) rfl)
        (pss_cons (ps_fld (pv 0) (pe_lst pa_nil) rfl)
        (pss_cons (ps_fld (pv 0) pe_int rfl)
        (pss_cons (ps_fld (pv 0) pe_non rfl)
        (pss_one (ps_fld (pv 0) (pe_lst pa_nil) rfl)))))))), ?_⟩
    refine ⟨_, rfl, _, _, rfl, rfl, _, rfl, ite2 (fun c1 => ?_) (fun c1 => ?_)⟩
    rotate_left
    · have c1 : ¬ 8 ≤ n := fun z => c1 (decide_eq_true z)
      exact ⟨_, rfl, iteT ⟨"blocks", rfl, by decide, fun d hd => q2 (fun z => c1 z.1) H d (Same.refl H) hd⟩⟩
    have c1 : 8 ≤ n := of_decide_eq_true c1
    refine ⟨_, _, rfl, rfl, _, rfl, ite2 (fun c2 => ?_) (fun c2 => ?_)⟩
    · have c2 : ¬ n ≤ 400 := of_decide_eq_false (bn c2)
      exact ⟨"blocks", rfl, by decide, fun d hd => q2 (fun z => c2 z.2) H d (Same.refl H) hd⟩
    have c2 : n ≤ 400 := of_decide_eq_true (bp c2)
    have q1 := q1 ⟨c1, c2⟩
    clear q2
    refine ⟨_, rfl, _, rfl, by omega, by omega, fun S nS => ?_⟩
    refine lc_range (n := n.toNat) (fun j H' => Same H H' ∧ ∃ rs : List Addr, H' S = some (.lst (rs.map V.ref)) ∧ rs.length = j ∧ ∀ r ∈ rs, H r = none ∧ r ≠ S ∧ H' r = some (.lst ((List.replicate 32 (0 : Int)).map V.int))) ⟨same_new nS, [], upd_same, rfl, fun r h => (nomatch h)⟩ ?_ ?_
    · rintro j H1 hj ⟨S1, rs, hS, rl, hrs⟩
      refine ⟨rfl, (by show 1 ≤ sizeLine; decide), fun p1 np1 => ⟨p1, 32, _, rfl, rfl, upd_same, by decide, by decide, by decide, fun p2 np2 => ?_⟩⟩
      rw [show ((32 : Int)).toNat = 32 from rfl, rep_flat]
      have X1 := same_new (o := .lst [V.int 0]) np1
      have X2 := same_new (o := .lst ((List.replicate 32 (0 : Int)).map V.int)) np2
      have X := X1.trans X2
      have h2 : upd (upd H1 p1 (.lst [V.int 0])) p2 (.lst ((List.replicate 32 (0 : Int)).map V.int)) p2 = some (.lst ((List.replicate 32 (0 : Int)).map V.int)) := upd_same
      have n2 : H p2 = none := same_none (S1.trans X1) np2
      have p2S : p2 ≠ S := fun e => by rw [e, X1 _ _ hS] at np2; cases np2
      generalize upd (upd H1 p1 (.lst [V.int 0])) p2 (.lst ((List.replicate 32 (0 : Int)).map V.int)) = H2 at X h2
      refine ⟨_, X _ _ hS, ?_, same_upd (S1.trans X) nS, rs ++ [p2], upd_same.trans (by rw [List.map_append]; rfl), by rw [List.length_append, rl]; rfl, fun r hr => ?_⟩
      · rw [List.length_map]
        exact small_line (by omega)
      · rcases List.mem_append.mp hr with m | m
        · obtain ⟨a1, a2, a3⟩ := hrs r m
          exact ⟨a1, a2, by rw [upd_ne a2]; exact X _ _ a3⟩
        · rw [List.mem_singleton.mp m]
          exact ⟨n2, p2S, by rw [upd_ne p2S]; exact h2⟩
    rintro H1 ⟨S1, rs, hS, rl, hrs⟩
    have hx1 := S1 _ _ hx
    refine ⟨_, rfl, x, Cd, dx, _, rfl, hx1, cl, G.stored, (by show 0 < _; decide), ?_⟩
    have Sx : S ≠ x := fun e => by rw [e, hx] at nS; cases nS
    refine ⟨(by show 0 ≤ sizeLine; decide), fun W nW => ⟨_, rfl, x, Cd, dx, _, rfl, (by rw [upd_ne (fun e => by rw [← e, upd_same] at nW; cases nW)]; exact upd_same), cl, G.waiting, (by show 1 < _; decide), ?_⟩⟩
    have Wx : W ≠ x := fun e => by rw [e, upd_same] at nW; cases nW
    have W1 : H1 W = none := by rw [upd_ne Wx] at nW; exact nW
    have WS : W ≠ S := fun e => by rw [e, hS] at W1; cases W1
    refine ⟨_, rfl, x, Cd, dx, _, rfl, upd_same, cl, G.cuts, (by show 2 < _; decide), ?_⟩
    refine ⟨_, rfl, x, Cd, dx, _, rfl, upd_same, cl, G.after, (by show 3 < _; decide), ?_⟩
    refine ⟨(by show 0 ≤ sizeLine; decide), fun T nT => ?_⟩
    have Tx : T ≠ x := fun e => by rw [e, upd_same] at nT; cases nT
    rw [upd_ne Tx, upd_ne Tx, upd_ne Tx] at nT
    have TW : T ≠ W := fun e => by rw [e, upd_same] at nT; cases nT
    rw [upd_ne TW, upd_ne Tx] at nT
    have TS : T ≠ S := fun e => by rw [e, hS] at nT; cases nT
    refine ⟨_, rfl, x, Cd, dx, _, rfl, (by rw [upd_ne Tx.symm]; exact upd_same), cl, G.torn, (by show 4 < _; decide), ?_⟩
    generalize hH : upd (upd _ T _) x _ = H8
    have k : ∀ a o, a ≠ x → a ≠ W → a ≠ T → H1 a = some o → H8 a = some o := fun a o h1 h2 h3 e => by
      rw [← hH, upd_ne h1, upd_ne h3, upd_ne h1, upd_ne h1, upd_ne h1, upd_ne h2, upd_ne h1]
      exact e
    have rne : ∀ r ∈ rs, r ≠ x ∧ r ≠ W ∧ r ≠ T := fun r hr => by
      obtain ⟨a1, a2, a3⟩ := hrs r hr
      exact ⟨fun e => (by rw [e, hx] at a1; cases a1), fun e => (by rw [e, W1] at a3; cases a3), fun e => (by rw [e, nT] at a3; cases a3)⟩
    refine q1 ⟨dx, S, W, T, rs.map fun r => (r, List.replicate 32 0), []⟩ H8 (fun b o nb e => ?_) ⟨?_, ?_, fun q hq => ?_, ?_, ?_, fun q hq => (nomatch hq), rfl, ?_, WS.symm, TS, TW⟩ fun a ha => ?_
    · exact k b o nb (fun z => by rw [z] at e; rw [S1 _ _ e] at W1; cases W1) (fun z => by rw [z] at e; rw [S1 _ _ e] at nT; cases nT) (S1 _ _ e)
    · rw [← hH]
      exact upd_same
    · rw [List.map_map]
      exact k S _ Sx WS.symm TS.symm hS
    · obtain ⟨r, hr, rfl⟩ := List.mem_map.mp hq
      obtain ⟨a1, a2, a3⟩ := hrs r hr
      obtain ⟨b1, b2, b3⟩ := rne r hr
      exact ⟨k r _ b1 b2 b3 a3, a2, b2⟩
    · show (rs.map fun r => (r, List.replicate 32 (0 : Int))).map (·.2) = List.replicate n.toNat (List.replicate 32 0)
      rw [List.map_map, ← rl]
      exact List.map_const' ..
    · rw [← hH, upd_ne Wx, upd_ne TW.symm, upd_ne Wx, upd_ne Wx, upd_ne Wx]
      exact upd_same
    · rw [← hH, upd_ne Tx]
      exact upd_same
    · rcases mem_all.mp ha with e | e | e | e | ⟨q, hq, e⟩ | ⟨q, hq, e⟩ | ⟨q, hq, e⟩
      · exact .inl e
      · rw [e]; exact .inr nS
      · rw [e]; exact .inr (same_none S1 W1)
      · rw [e]; exact .inr (same_none S1 nT)
      · obtain ⟨r, hr, rfl⟩ := List.mem_map.mp hq
        rw [← e]
        exact .inr (hrs r hr).1
      · exact nomatch hq
      · exact nomatch hq
end
end LB

set_option maxRecDepth 100000
set_option maxHeartbeats 8000000
namespace LB
open PySem PySem.Spec PyProof.Rows L2
theorem But.offNone {b : Addr} {H H' : Hp} {p : Addr} (B : Box H b) (U : But b H H') (n : H' p = none) : H p = none := by
  by_cases e : p = b
  · obtain ⟨l, ds, k, h, _⟩ := B
    obtain ⟨k', h'⟩ := U.d l k h
    rw [e, h'] at n
    cases n
  · cases h : H p with
    | none => rfl
    | some o => rw [U.k p o e h] at n; cases n
section
variable {P : Program} {w : World} {K : PySem.W.Frag} {mg : Str → Option Value} {base : Heap} {Cd C Cp fI cc cda : Addr}
/-- a new list of bytes that a cut leaves -/
def spLTorn : Sp := fun vs H Q _ => ∃ (b : Addr) (m : Int), vs = [.ref b, .int m] ∧ Box H b ∧ 0 ≤ m ∧ m ≤ 100 ∧ ∀ (a : Addr) (t : List Int) (H' : Hp), H a = none → Box H' b → But b H H' → H' a = some (.lst (t.map V.int)) → okTorn t = true → t.length ≤ 100 → Q (.ref a) H'
theorem scLt : FnScope ["box", "many", "kind", "k"] ["box", "many"] (defScope sLTorn) := ⟨rfl, rfl, rfl, by decide +kernel, rfl, by decide +kernel, by decide +kernel⟩
theorem ok_ltorn {f fD : Addr} {fd fdD : FuncData} (F : Fun K "_law_torn" "_law_torn" sLTorn f fd) (M : NamesG mg) (FD : Fun K "_law_draw" "_law_draw" sDraw fD fdD) (mD : mg "_law_draw" = some (.ref fD)) (bD : Binds K fdD ["box", "many"] []) :
    FnOk P w K mg base CX0 2 f fd ["box", "many"] spLTorn := by
  have GD : FnOk P w K mg base CX0 1 fD fdD ["box", "many"] (spDraw K) := ok_draw FD M.toNames
  have kD := FD.kp
  refine F.ok scLt (fun vs H Q E h => ?_) (fun cdv A outer s H vs Q E hr h => ?_)
  · obtain ⟨b, m, rfl, _⟩ := h
    rfl
  · obtain ⟨b, m, rfl, B, m0, m1, q⟩ := h
    have nd := scLt.nd
    refine ⟨_, (pss_cons (ps_set (i := 2) nd rfl (Or.inl rfl) (pe_call GD (hr.mono (by decide)) rfl mD kD bD .nil pass0 (pa_cons (pv 0) (pa_cons pe_int pa_nil))))
        (pss_cons (ps_if (pt_cmpR op_eq (pv 2) pe_int (nomark _)) (pss_one (ps_ret (pe_lst pa_nil))) pss_nil)
        (pss_cons (ps_if (pt_cmpR op_eq (pv 2) pe_int (nomark _)) (pss_one (ps_ret (pe_op op_rep (pe_lst (pa_cons pe_int pa_nil)) (pv 1)))) pss_nil)
        (pss_cons (ps_if (pt_cmpR op_eq (pv 2) pe_int (nomark _)) (pss_one (ps_ret (pe_lc (own := [("k", 3)]) (g := (gName 3)) rfl nd (pi_range1 (by rfl) M.range (pa_cons (pv 1) pa_nil)) (blkOk_by (N := ["box", "many", "kind", "k"]) (sc := (defScope sLTorn)) (by decide +kernel)) (fun _ _ _ _ _ => (pg_name (i := 3) nd rfl (Or.inl rfl))) (fun _ _ _ _ _ => pts_nil) (fun _ _ _ _ _ => (pe_op op_mul pe_int (pe_call GD (hr.mono (by decide)) rfl mD kD bD .nil pass0 (pa_cons (pv 0) (pa_cons pe_int pa_nil)))))))) pss_nil)
        (pss_one (ps_ret (pe_lc (own := [("k", 3)]) (g := (gName 3)) rfl nd (pi_range1 (by rfl) M.range (pa_cons (pv 1) pa_nil)) (blkOk_by (N := ["box", "many", "kind", "k"]) (sc := (defScope sLTorn)) (by decide +kernel)) (fun _ _ _ _ _ => (pg_name (i := 3) nd rfl (Or.inl rfl))) (fun _ _ _ _ _ => pts_nil) (fun _ _ _ _ _ => (pe_call GD (hr.mono (by decide)) rfl mD kD bD .nil pass0 (pa_cons (pv 0) (pa_cons pe_int pa_nil))))))))))), ?_⟩
    refine ⟨_, rfl, b, 4, rfl, B, by decide, fun r H1 r0 r1 B1 U1 => ?_⟩
    have n1 : ∀ {p}, H1 p = none → H p = none := fun n => But.offNone B U1 n
    refine ⟨_, rfl, rfl, _, rfl, ite_int (fun _ => ?_) (fun _ => ?_)⟩
    · exact ⟨(by show 0 ≤ sizeLine; decide), fun a na => q a [] _ (n1 na) (B1.new na) (U1.new na) upd_same rfl (Nat.zero_le _)⟩
    refine ⟨_, rfl, rfl, _, rfl, ite_int (fun _ => ?_) (fun _ => ?_)⟩
    · refine ⟨(by show 1 ≤ sizeLine; decide), fun p1 np1 => ⟨_, rfl, p1, m, _, rfl, rfl, upd_same, by omega, by omega, ?_, fun a na => ?_⟩⟩
      · show 1 * _ ≤ sizeLine
        exact Nat.le_trans (m := 100) (by omega) (by decide)
      rw [rep_flat]
      refine q a (List.replicate m.toNat 32) _ (n1 (same_none (same_new np1) na)) ((B1.new np1).new na) ((U1.new np1).new na) upd_same (List.all_eq_true.mpr fun v hv => ?_) (by rw [List.length_replicate]; omega)
      rw [(List.mem_replicate.mp hv).2]
      decide
    have more : ∀ (t : List Int) (v : Int), okTorn t = true → 0 ≤ v → v ≤ 32 → okTorn (t ++ [v]) = true := fun t v h h0 h1 => by
      unfold okTorn at h ⊢
      rw [List.all_append, h]
      simp [h0, h1]
    refine ⟨_, rfl, rfl, _, rfl, ite_int (fun _ => ?_) (fun _ => ?_)⟩
    all_goals (
      refine ⟨_, rfl, _, rfl, by omega, by omega, fun D nD => ?_⟩
      have fD : H D = none := n1 nD
      have db : D ≠ b := B.apart fD
      refine lc_range (n := m.toNat) (fun j H' => ∃ t : List Int, H' D = some (.lst (t.map V.int)) ∧ t.length = j ∧ okTorn t = true ∧ Box H' b ∧ But b H H') ⟨[], upd_same, rfl, rfl, B1.new nD, U1.new nD⟩ ?_ ?_
      rotate_left
      · rintro H4 ⟨t, hD, tl, tk, B4, U4⟩
        exact q D t H4 fD B4 U4 hD tk (by omega)
      rintro j H4 hj ⟨t, hD, tl, tk, B4, U4⟩
      first
      | (refine ⟨rfl, _, rfl, b, 2, rfl, B4, by decide, fun x H5 x0 x1 B5 U5 => ⟨_, _, rfl, rfl, .inl ⟨by decide, by decide⟩, ?_⟩⟩
         have hD5 := U5.k D _ db hD
         exact ⟨_, hD5, (by rw [List.length_map]; exact small_line (by omega)), t ++ [32 * x], upd_same.trans (congrArg some lst_more), by rw [List.length_append, tl]; rfl, more t _ tk (by omega) (by omega), (Box.put B B5 (U4.trans U5) fD).1, (Box.put B B5 (U4.trans U5) fD).2⟩)
      | (refine ⟨rfl, _, rfl, b, 33, rfl, B4, by decide, fun x H5 x0 x1 B5 U5 => ?_⟩
         have hD5 := U5.k D _ db hD
         exact ⟨_, hD5, (by rw [List.length_map]; exact small_line (by omega)), t ++ [x], upd_same.trans (congrArg some lst_more), by rw [List.length_append, tl]; rfl, more t _ tk (by omega) (by omega), (Box.put B B5 (U4.trans U5) fD).1, (Box.put B B5 (U4.trans U5) fD).2⟩))
end
end LB

set_option maxRecDepth 100000
set_option maxHeartbeats 8000000
namespace LB
open PySem PySem.Spec PyProof.Rows L2
/-! ### a law's own lists beside a disk -/
structure LPl where
  br : List (Addr × List Int)
  pr : List (Addr × (Int × (Addr × List Int)))
def LPl.all (g : LPl) (B N : Addr) : List Addr := B :: N :: (g.br.map (·.1) ++ g.pr.map (·.1) ++ g.pr.map (·.2.2.1))
structure LwAt (H : Hp) (B N : Addr) (D : DSt) (g : LPl) : Prop where
  hB : H B = some (.lst (g.br.map fun q => V.ref q.1))
  br : ∀ q ∈ g.br, H q.1 = some (.lst (q.2.map V.int)) ∧ q.1 ≠ B ∧ q.1 ≠ N
  st : g.br.map (·.2) = D.st
  hN : H N = some (.lst (g.pr.map fun q => V.ref q.1))
  pr : ∀ q ∈ g.pr, H q.1 = some (.lst [.int q.2.1, .ref q.2.2.1]) ∧ H q.2.2.1 = some (.lst (q.2.2.2.map V.int)) ∧ q.1 ≠ B ∧ q.1 ≠ N ∧ q.2.2.1 ≠ B ∧ q.2.2.1 ≠ N
  wt : g.pr.map (fun q => (q.2.1, q.2.2.2)) = D.wt
  BN : B ≠ N
theorem mem_lall {g : LPl} {B N a : Addr} : a ∈ g.all B N ↔ a = B ∨ a = N ∨ (∃ q ∈ g.br, q.1 = a) ∨ (∃ q ∈ g.pr, q.1 = a) ∨ ∃ q ∈ g.pr, q.2.2.1 = a := by
  unfold LPl.all
  simp only [List.mem_cons, List.mem_append, List.mem_map]
  constructor
  · rintro (h | h | (h | h) | h)
    · exact .inl h
    · exact .inr (.inl h)
    · exact .inr (.inr (.inl h))
    · exact .inr (.inr (.inr (.inl h)))
    · exact .inr (.inr (.inr (.inr h)))
  · rintro (h | h | h | h | h)
    · exact .inl h
    · exact .inr (.inl h)
    · exact .inr (.inr (.inl (.inl h)))
    · exact .inr (.inr (.inl (.inr h)))
    · exact .inr (.inr (.inr h))
theorem LwAt.alloc {H : Hp} {B N : Addr} {D : DSt} {g : LPl} (h : LwAt H B N D g) : ∀ a ∈ g.all B N, H a ≠ none := by
  intro a ha e
  rcases mem_lall.mp ha with rfl | rfl | ⟨q, hq, rfl⟩ | ⟨q, hq, rfl⟩ | ⟨q, hq, rfl⟩
  · rw [h.hB] at e; cases e
  · rw [h.hN] at e; cases e
  · rw [(h.br q hq).1] at e; cases e
  · rw [(h.pr q hq).1] at e; cases e
  · rw [(h.pr q hq).2.1] at e; cases e
theorem LwAt.keep {H H' : Hp} {B N : Addr} {D : DSt} {g : LPl} (h : LwAt H B N D g) (k : ∀ a ∈ g.all B N, H' a = H a) : LwAt H' B N D g :=
  ⟨(k _ (mem_lall.mpr (.inl rfl))).trans h.hB, fun q hq => ⟨(k _ (mem_lall.mpr (.inr (.inr (.inl ⟨q, hq, rfl⟩))))).trans (h.br q hq).1, (h.br q hq).2⟩, h.st, (k _ (mem_lall.mpr (.inr (.inl rfl)))).trans h.hN,
    fun q hq => ⟨(k _ (mem_lall.mpr (.inr (.inr (.inr (.inl ⟨q, hq, rfl⟩)))))).trans (h.pr q hq).1, (k _ (mem_lall.mpr (.inr (.inr (.inr (.inr ⟨q, hq, rfl⟩)))))).trans (h.pr q hq).2.1, (h.pr q hq).2.2⟩, h.wt, h.BN⟩
theorem LwAt.of {H : Hp} {B N : Addr} {D D' : DSt} {g : LPl} (h : LwAt H B N D g) (e1 : D'.st = D.st) (e2 : D'.wt = D.wt) : LwAt H B N D' g := ⟨h.hB, h.br, h.st.trans e1.symm, h.hN, h.pr, h.wt.trans e2.symm, h.BN⟩
theorem LwAt.setB {H : Hp} {B N : Addr} {D : DSt} {g : LPl} (h : LwAt H B N D g) {k : Nat} {r : Addr} {b : List Int} (hr : H r = some (.lst (b.map V.int))) (rB : r ≠ B) (rN : r ≠ N) :
    LwAt (upd H B (.lst ((g.br.map fun q => V.ref q.1).set k (.ref r)))) B N { D with st := D.st.set k b } { g with br := g.br.set k (r, b) } := by
  refine ⟨upd_same.trans (by rw [List.map_set]), fun q hq => ?_, by rw [List.map_set, h.st], (upd_ne h.BN.symm).trans h.hN, fun q hq => ?_, h.wt, h.BN⟩
  · rcases List.mem_or_eq_of_mem_set hq with m | rfl
    · obtain ⟨h1, h2, h3⟩ := h.br q m
      exact ⟨(upd_ne h2).trans h1, h2, h3⟩
    · exact ⟨(upd_ne rB).trans hr, rB, rN⟩
  · obtain ⟨h1, h2, h3, h4, h5, h6⟩ := h.pr q hq
    exact ⟨(upd_ne h3).trans h1, (upd_ne h5).trans h2, h3, h4, h5, h6⟩
theorem lall_setB {g : LPl} {B N r a : Addr} {k : Nat} {b : List Int} (m : a ∈ LPl.all { g with br := g.br.set k (r, b) } B N) : a ∈ g.all B N ∨ a = r := by
  rcases mem_lall.mp m with m | m | ⟨q, hq, e⟩ | m | m
  · exact .inl (mem_lall.mpr (.inl m))
  · exact .inl (mem_lall.mpr (.inr (.inl m)))
  · rcases List.mem_or_eq_of_mem_set hq with h | h
    · exact .inl (mem_lall.mpr (.inr (.inr (.inl ⟨q, h, e⟩))))
    · subst h
      exact .inr e.symm
  · exact .inl (mem_lall.mpr (.inr (.inr (.inr (.inl m)))))
  · exact .inl (mem_lall.mpr (.inr (.inr (.inr (.inr m)))))
theorem LwAt.putN {H : Hp} {B N : Addr} {D : DSt} {g : LPl} (h : LwAt H B N D g) {t r : Addr} {at_ : Int} {b : List Int} (ht : H t = some (.lst [.int at_, .ref r])) (hr : H r = some (.lst (b.map V.int))) (tB : t ≠ B) (tN : t ≠ N) (rB : r ≠ B) (rN : r ≠ N) :
    LwAt (upd H N (.lst ((g.pr.map fun q => V.ref q.1) ++ [.ref t]))) B N { D with wt := D.wt ++ [(at_, b)] } { g with pr := g.pr ++ [(t, at_, r, b)] } := by
  refine ⟨(upd_ne h.BN).trans h.hB, fun q hq => ⟨(upd_ne (h.br q hq).2.2).trans (h.br q hq).1, (h.br q hq).2⟩, h.st, upd_same.trans (by rw [List.map_append]; rfl), fun q hq => ?_, by rw [List.map_append, h.wt]; rfl, h.BN⟩
  rcases List.mem_append.mp hq with m | m
  · obtain ⟨h1, h2, h3, h4, h5, h6⟩ := h.pr q m
    exact ⟨(upd_ne h4).trans h1, (upd_ne h6).trans h2, h3, h4, h5, h6⟩
  · rw [List.mem_singleton.mp m]
    exact ⟨(upd_ne tN).trans ht, (upd_ne rN).trans hr, tB, tN, rB, rN⟩
theorem lall_putN {g : LPl} {B N t r a : Addr} {at_ : Int} {b : List Int} (m : a ∈ LPl.all { g with pr := g.pr ++ [(t, at_, r, b)] } B N) : a ∈ g.all B N ∨ a = t ∨ a = r := by
  rcases mem_lall.mp m with m | m | m | ⟨q, hq, e⟩ | ⟨q, hq, e⟩
  · exact .inl (mem_lall.mpr (.inl m))
  · exact .inl (mem_lall.mpr (.inr (.inl m)))
  · exact .inl (mem_lall.mpr (.inr (.inr (.inl m))))
  · rcases List.mem_append.mp hq with h | h
    · exact .inl (mem_lall.mpr (.inr (.inr (.inr (.inl ⟨q, h, e⟩)))))
    · rw [List.mem_singleton.mp h] at e
      exact .inr (.inl e.symm)
  · rcases List.mem_append.mp hq with h | h
    · exact .inl (mem_lall.mpr (.inr (.inr (.inr (.inr ⟨q, h, e⟩)))))
    · rw [List.mem_singleton.mp h] at e
      exact .inr (.inr e.symm)
/-- another list of what waits, empty -/
theorem LwAt.newN {H : Hp} {B N N' : Addr} {D : DSt} {g : LPl} (h : LwAt H B N D g) (hN : H N' = some (.lst [])) (n : N' ∉ g.all B N) : LwAt H B N' { D with wt := [] } { g with pr := [] } :=
  ⟨h.hB, fun q hq => ⟨(h.br q hq).1, (h.br q hq).2.1, fun e => n (mem_lall.mpr (.inr (.inr (.inl ⟨q, hq, e⟩))))⟩, h.st, hN, fun q hq => (nomatch hq), rfl, fun e => n (mem_lall.mpr (.inl e.symm))⟩
theorem lall_newN {g : LPl} {B N N' a : Addr} (m : a ∈ LPl.all { g with pr := [] } B N') : a ∈ g.all B N ∨ a = N' := by
  rcases mem_lall.mp m with m | m | m | ⟨q, hq, e⟩ | ⟨q, hq, e⟩
  · exact .inl (mem_lall.mpr (.inl m))
  · exact .inr m
  · exact .inl (mem_lall.mpr (.inr (.inr (.inl m))))
  · exact nomatch hq
  · exact nomatch hq
/-- a box, a disk and the law's lists, all made behind H0 and apart -/
structure LI (H0 H : Hp) (Cd b x B N : Addr) (D E : DSt) (p : DPl) (g : LPl) : Prop where
  B0 : Box H0 b
  bx : Box H b
  U : But b H0 H
  d : DiskAt H Cd x D p
  nd : ∀ a ∈ p.all x, H0 a = none
  l : LwAt H B N E g
  nl : ∀ a ∈ g.all B N, H0 a = none
  dj : ∀ a ∈ g.all B N, a ∉ p.all x
section
variable {H0 H H' : Hp} {Cd b x B N : Addr} {D E : DSt} {p : DPl} {g : LPl}
theorem LI.bD (h : LI H0 H Cd b x B N D E p g) : b ∉ p.all x := fun m => by
  obtain ⟨l, ds, k, hb, _⟩ := h.B0
  rw [h.nd b m] at hb
  cases hb
theorem LI.bL (h : LI H0 H Cd b x B N D E p g) : b ∉ g.all B N := fun m => by
  obtain ⟨l, ds, k, hb, _⟩ := h.B0
  rw [h.nl b m] at hb
  cases hb
theorem LI.but (h : LI H0 H Cd b x B N D E p g) (u : But b H H') (bx : Box H' b) : LI H0 H' Cd b x B N D E p g := by
  refine ⟨h.B0, bx, h.U.trans u, h.d.keep fun a ha => ?_, h.nd, h.l.keep fun a ha => ?_, h.nl, h.dj⟩
  · cases e : H a with
    | none => exact absurd e (h.d.alloc a ha)
    | some o => exact u.k a o (fun z => h.bD (z ▸ ha)) e
  · cases e : H a with
    | none => exact absurd e (h.l.alloc a ha)
    | some o => exact u.k a o (fun z => h.bL (z ▸ ha)) e
theorem LI.same (h : LI H0 H Cd b x B N D E p g) (S : Same H H') : LI H0 H' Cd b x B N D E p g := h.but (But.of S) (h.bx.same S)
/-- what is done to the disk leaves the law's alone -/
theorem LI.disk (h : LI H0 H Cd b x B N D E p g) {D' : DSt} {p' : DPl} (d : DiskAt H' Cd x D' p') (f : FrD p x H H') (n : NewD p p' x H) : LI H0 H' Cd b x B N D' E p' g := by
  have old : ∀ a o, H0 a = some o → a ∉ p.all x := fun a o e m => by rw [h.nd a m] at e; cases e
  obtain ⟨l, ds, k0, hb0, hl0, ne, pos, len⟩ := h.B0
  have bx : Box H' b := by
    obtain ⟨k1, hb1⟩ := h.U.d l k0 hb0
    obtain ⟨l2, ds2, k2, hb2, hl2, ne2, pos2, len2⟩ := h.bx
    rw [hb1] at hb2
    cases hb2
    exact ⟨l, ds2, k1, f _ _ (old _ _ hb0) hb1, f _ _ (old _ _ hl0) hl2, ne2, pos2, len2⟩
  have u : But b H0 H' := by
    refine ⟨fun a o na e => f _ _ (old _ _ e) (h.U.k a o na e), fun l' k' e => ?_⟩
    obtain ⟨k1, hb1⟩ := h.U.d l' k' e
    exact ⟨k1, f _ _ (old _ _ hb0) hb1⟩
  have nd : ∀ a ∈ p'.all x, H0 a = none := fun a ha => by
    rcases n a ha with m | m
    · exact h.nd a m
    · exact But.offNone h.B0 h.U m
  refine ⟨h.B0, bx, u, d, nd, h.l.keep fun a ha => ?_, h.nl, fun a ha m => ?_⟩
  · cases e : H a with
    | none => exact absurd e (h.l.alloc a ha)
    | some o => exact f a o (h.dj a ha) e
  · rcases n a m with m | m
    · exact h.dj a ha m
    · exact h.l.alloc a ha m
/-- a list of the law's that nobody else holds -/
theorem LI.put (h : LI H0 H Cd b x B N D E p g) {q : Addr} {o : HO} (n : H0 q = none) (d : q ∉ p.all x) (l : q ∉ g.all B N) : LI H0 (upd H q o) Cd b x B N D E p g := by
  obtain ⟨bx, u⟩ := Box.put (o := o) h.B0 h.bx h.U n
  exact ⟨h.B0, bx, u, h.d.keep fun a ha => upd_ne fun z => d (z ▸ ha), h.nd, h.l.keep fun a ha => upd_ne fun z => l (z ▸ ha), h.nl, h.dj⟩
/-- what is done to the law's lists leaves the disk alone -/
theorem LI.law (h : LI H0 H Cd b x B N D E p g) {B' N' q : Addr} {o : HO} {E' : DSt} {g' : LPl} (n : H0 q = none) (d : q ∉ p.all x) (l : LwAt (upd H q o) B' N' E' g') (m : ∀ a ∈ g'.all B' N', H0 a = none ∧ a ∉ p.all x) : LI H0 (upd H q o) Cd b x B' N' D E' p g' := by
  obtain ⟨bx, u⟩ := Box.put (o := o) h.B0 h.bx h.U n
  exact ⟨h.B0, bx, u, h.d.keep fun a ha => upd_ne fun z => d (z ▸ ha), h.nd, l, fun a ha => (m a ha).1, fun a ha => (m a ha).2⟩
/-- what is new is nobody's -/
theorem LI.new (h : LI H0 H Cd b x B N D E p g) {q : Addr} (n : H q = none) : H0 q = none ∧ q ∉ p.all x ∧ q ∉ g.all B N := ⟨But.offNone h.B0 h.U n, h.d.new n, fun m => h.l.alloc q m n⟩
end
section
variable {P : Program} {w : World} {K : PySem.W.Frag} {mg : Str → Option Value} {base : Heap}
def spLRead : Sp := fun vs H Q _ => ∃ (B N : Addr) (k : Nat) (D : DSt) (g : LPl), vs = [.ref B, .ref N, .int (k : Int)] ∧ LwAt H B N D g ∧ k < D.st.length ∧ ∀ r, r ∈ g.all B N → H r = some (.lst ((D.readB k).map V.int)) → Q (.ref r) H
end
end LB

set_option maxRecDepth 100000
set_option maxHeartbeats 8000000
namespace LB
open PySem PySem.Spec PyProof.Rows L2
/-! ### cuts on schedule -/
section
variable {H : Hp} {C x : Addr} {D : DSt} {p : DPl}
/-- another schedule -/
theorem DiskAt.setT (h : DiskAt H C x D p) {T' : Addr} {t : List Int} {n : Int} (hT : H T' = some (.lst (t.map V.int))) (n0 : T' ∉ p.all x) :
    DiskAt (upd H x (.ins C p.dx (dkFs p.S p.W T' D.cuts (.int n)))) C x { D with after := some n, torn := t } { p with T := T' } := by
  obtain ⟨xS, xW, xT⟩ := h.neS
  obtain ⟨n1, n2⟩ := h.neB
  have nx : T' ≠ x := fun e => n0 (mem_all.mpr (.inl e))
  have nS : T' ≠ p.S := fun e => n0 (mem_all.mpr (.inr (.inl e)))
  have nW : T' ≠ p.W := fun e => n0 (mem_all.mpr (.inr (.inr (.inl e))))
  exact ⟨upd_same, (upd_ne xS.symm).trans h.S, fun q hq => ⟨(upd_ne (n1 q hq)).trans (h.sr q hq).1, (h.sr q hq).2⟩, h.st, (upd_ne xW.symm).trans h.W,
    fun q hq => ⟨(upd_ne (n2 q hq).1).trans (h.wr q hq).1, (upd_ne (n2 q hq).2.2.2).trans (h.wr q hq).2.1, (h.wr q hq).2.2⟩, h.wt, (upd_ne nx).trans hT, h.SW, nS, nW⟩
theorem all_setT {T' a : Addr} (m : a ∈ DPl.all { p with T := T' } x) : a ∈ p.all x ∨ a = T' := by
  rw [mem_all] at m
  rcases m with m | m | m | m | m | m | m
  · exact .inl (mem_all.mpr (.inl m))
  · exact .inl (mem_all.mpr (.inr (.inl m)))
  · exact .inl (mem_all.mpr (.inr (.inr (.inl m))))
  · exact .inr m
  · exact .inl (mem_all.mpr (.inr (.inr (.inr (.inr (.inl m))))))
  · exact .inl (mem_all.mpr (.inr (.inr (.inr (.inr (.inr (.inl m)))))))
  · exact .inl (mem_all.mpr (.inr (.inr (.inr (.inr (.inr (.inr m)))))))
end
section
variable {P : Program} {w : World} {K : PySem.W.Frag} {mg : Str → Option Value} {base : Heap} {Cd C Cp fI cc cda : Addr}
def spSchedM (Cd C : Addr) : Sp := fun vs H Q E => ∃ (x : Addr) (D : DSt) (p : DPl) (n : Int) (a : Addr) (t : List Int), vs = [.ref x, .int n, .ref a] ∧ DiskAt H Cd x D p ∧ D.Ok ∧ H a = some (.lst (t.map V.int)) ∧ t.length ≤ 3000 ∧
  (0 ≤ n ∧ n ≤ 100000 → okTorn t = true → ∀ (p' : DPl) (H' : Hp), DiskAt H' Cd x { D with after := some n, torn := t } p' → FrD p x H H' → NewD p p' x H → Q .non H') ∧
  (¬ (0 ≤ n ∧ n ≤ 100000) → RaisesO C "many" H E) ∧ (0 ≤ n ∧ n ≤ 100000 → okTorn t = false → RaisesO C "torn" H E)
theorem scSc : FnScope ["self", "many", "torn"] ["self", "many", "torn"] (defScope dsSched) := ⟨rfl, rfl, rfl, by decide +kernel, rfl, by decide +kernel, by decide +kernel⟩
theorem ok_schedM {f fT : Addr} {fd fdT : FuncData} (F : Fun K "schedule_cut" "Disk.schedule_cut" dsSched f fd) (G : ClsG K Cd) (O : Oor K mg P "OutOfRange" C fI cc cda) (M : NamesG mg) (T : TopG mg) {tcm : Tok} (hcm : mg "CUT_MOST" = some (.int 100000 tcm)) (FT : Fun K "check_torn" "check_torn" sCheckTorn fT fdT) (mT : mg "check_torn" = some (.ref fT)) (bT : Binds K fdT ["torn"] []) :
    FnOk P w K mg base (L2.CX P w) 3 f fd ["self", "many", "torn"] (spSchedM Cd C) := by
  have GT : FnOk P w K mg base (L2.CX P w) 2 fT fdT ["torn"] (spCheckT K C) := ok_checkt FT O M T
  have kT := FT.kp
  refine F.okX scSc (fun vs H Q E h => ?_) (fun cdv A outer s H vs Q E hr h => ?_)
  · obtain ⟨x, D, p, n, a, t, rfl, _⟩ := h
    rfl
  · obtain ⟨x, D, p, n, a, t, rfl, h, ok, ha, tl, q1, q2, q3⟩ := h
    have cl := G.cl
    refine ⟨_, (pss_cons (ps_if (pt_not (pt_chain op_le op_le pe_int (pv 1) (pe_glob (v := .int 100000) rfl hcm ⟨_, rfl⟩))) (pss_one (ps_raiseErr (W := fun cls d _ H' => E cls d H') rfl O hr (takes_of rfl rfl rfl rfl) (pa_cons pe_str pa_nil) rfl (by decide))) pss_nil)
        (pss_cons (ps_expr (pe_call GT (hr.mono (by decide)) rfl mT kT bT .nil (passes_call (takes_of rfl rfl rfl rfl) (fun _ _ _ _ h => h)) (pa_cons (pv 2) pa_nil)))
        (pss_cons (ps_fld (pv 0) (pv 1) rfl)
        (pss_one (ps_fld (pv 0) (pe_callTy call_list_of (by rfl) M.list (by decide +kernel) (pa_cons (pv 2) pa_nil)) rfl))))), ?_⟩
    refine ⟨_, rfl, _, _, rfl, rfl, _, rfl, ite2 (fun c1 => ?_) (fun c1 => ?_)⟩
    rotate_left
    · have c1 : ¬ 0 ≤ n := fun z => c1 (decide_eq_true z)
      exact ⟨_, rfl, iteT ⟨"many", rfl, by decide, fun d hd => q2 (fun z => c1 z.1) H d (Same.refl H) hd⟩⟩
    have c1 : 0 ≤ n := of_decide_eq_true c1
    refine ⟨_, _, rfl, rfl, _, rfl, ite2 (fun c2 => ?_) (fun c2 => ?_)⟩
    · have c2 : ¬ n ≤ 100000 := of_decide_eq_false (bn c2)
      exact ⟨"many", rfl, by decide, fun d hd => q2 (fun z => c2 z.2) H d (Same.refl H) hd⟩
    have c2 : n ≤ 100000 := of_decide_eq_true (bp c2)
    refine ⟨_, rfl, a, t, rfl, SqL.of ha, tl, fun g H1 S1 => ?_, q3 ⟨c1, c2⟩⟩
    have h1 := h.same S1
    have q1 := q1 ⟨c1, c2⟩ g
    have mx : x ∈ p.all x := mem_all.mpr (.inl rfl)
    refine ⟨_, rfl, _, rfl, x, Cd, _, _, rfl, h1.obj, cl, G.after, (by show 5 < _; decide), ?_⟩
    have h2 := h1.flds (c := D.cuts) (a := some n)
    have f2 : FrD p x H (upd H1 x (.ins Cd p.dx (dkFs p.S p.W p.T D.cuts (oV (some n))))) := (FrD.same S1).trans NewD.refl (frD_at mx)
    have e1 : putF "_cut_after" (V.int n) (dkFs p.S p.W p.T D.cuts (oV D.after)) = dkFs p.S p.W p.T D.cuts (oV (some n)) := rfl
    rw [e1]
    have an : upd H1 x (.ins Cd p.dx (dkFs p.S p.W p.T D.cuts (oV (some n)))) a = some (.lst (t.map V.int)) := (upd_ne (ne_of (S1 _ _ ha) h1.obj (by intro z; cases z))).trans (S1 _ _ ha)
    generalize upd H1 x (.ins Cd p.dx (dkFs p.S p.W p.T D.cuts (oV (some n)))) = H2 at h2 f2 an
    refine ⟨_, rfl, a, _, rfl, .inl (SqL.of an), fun T' nT => ⟨_, rfl, x, Cd, _, _, rfl, same_new nT _ _ h2.obj, cl, G.torn, (by show 5 < _; decide), ?_⟩⟩
    have h3 := h2.same (same_new (o := .lst (t.map V.int)) nT)
    have nTa := h2.new nT
    refine q1 { p with T := T' } _ (h3.setT (n := n) upd_same nTa) ((f2.trans NewD.refl (FrD.same (same_new nT))).trans NewD.refl (frD_at mx)) fun c hc => ?_
    rcases all_setT hc with m | m
    · exact .inl m
    · rw [m]
      by_cases i : T' ∈ p.all x
      · exact .inl i
      · cases e : H T' with
        | none => exact .inr rfl
        | some o => rw [f2 T' o i e] at nT; cases nT
end
end LB

set_option maxRecDepth 100000
set_option maxHeartbeats 8000000
namespace LB
open PySem PySem.Spec PyProof.Rows L2
theorem blk_ok {b : List Int} (h : Blk b) : okBlock b = true := by
  unfold okBlock
  rw [decide_eq_true h.1, Bool.true_and]
  exact List.all_eq_true.mpr fun v hv => by rw [decide_eq_true (h.2 v hv).1, decide_eq_true (h.2 v hv).2]; rfl
theorem raises_mono {C : Addr} {z : Str} {H : Hp} {E E' : XK} (he : ∀ cls d H', E cls d H' → E' cls d H') (h : RaisesO C z H E) : RaisesO C z H E' := fun H' d S n => he _ _ _ (h H' d S n)
section
variable {K : PySem.W.Frag} {Cd C Cp : Addr} {vs : List V} {H : Hp} {Q Q' : VK} {E E' : XK} (hq : ∀ v H', Q v H' → Q' v H') (he : ∀ cls d H', E cls d H' → E' cls d H')
include hq he
theorem writeM_mono (h : spWriteM K Cd C Cp vs H Q E) : spWriteM K Cd C Cp vs H Q' E' := by
  obtain ⟨x, D, p, at_, r, b, e, h, ok, hr, rN, bl, few, q1, q2, q3, q4⟩ := h
  exact ⟨x, D, p, at_, r, b, e, h, ok, hr, rN, bl, few, fun a o D' em p' H' d f n => hq _ _ (q1 a o D' em p' H' d f n), fun a o em p' H' d f n => he _ _ _ (q2 a o em p' H' d f n), fun a => raises_mono he (q3 a), fun a o => raises_mono he (q4 a o)⟩
theorem flush_mono (h : spFlush Cd Cp vs H Q E) : spFlush Cd Cp vs H Q' E' := by
  obtain ⟨x, D, p, e, h, ok, q1, q2⟩ := h
  exact ⟨x, D, p, e, h, ok, fun D' em p' H' d f n => hq _ _ (q1 D' em p' H' d f n), fun em p' H' d f n => he _ _ _ (q2 em p' H' d f n)⟩
theorem schedM_mono (h : spSchedM Cd C vs H Q E) : spSchedM Cd C vs H Q' E' := by
  obtain ⟨x, D, p, n, a, t, e, h, ok, ha, tl, q1, q2, q3⟩ := h
  exact ⟨x, D, p, n, a, t, e, h, ok, ha, tl, fun i o p' H' d f n => hq _ _ (q1 i o p' H' d f n), fun i => raises_mono he (q2 i), fun i o => raises_mono he (q3 i o)⟩
end
/-- what a refusal is told as, and a cut -/
def EQr (C : Addr) (Q : VK) : XK := fun cls d H' => cls = .ref C ∧ ∃ (dd : Addr) (z : Str), d = some dd ∧ H' dd = some (.xd [(("name" : Str), .str z)]) ∧ ∀ t, H' t = none → Q (.ref t) (upd H' t (.tup [.str "refused", .str z]))
def EQd (C Cp : Addr) (Q : VK) : XK := fun cls d H' => EQr C Q cls d H' ∨ (cls = .ref Cp ∧ d = none ∧ ∀ t, H' t = none → Q (.ref t) (upd H' t (.tup [.str "refused", .str "cut"])))
theorem raises_told {C : Addr} {z : Str} {H : Hp} {Q : VK} (q : ∀ t H', Same H H' → H' t = some (.tup [.str "refused", .str z]) → Q (.ref t) H') : RaisesO C z H (EQr C Q) := fun H' d S n =>
  ⟨rfl, d, z, rfl, upd_same, fun t nt => q t _ ((S.trans (same_new n)).trans (same_new nt)) upd_same⟩
theorem raises_toldD {C Cp : Addr} {z : Str} {H : Hp} {Q : VK} (q : ∀ t H', Same H H' → H' t = some (.tup [.str "refused", .str z]) → Q (.ref t) H') : RaisesO C z H (EQd C Cp Q) := fun H' d S n => .inl (raises_told q H' d S n)
theorem told_ne {K : PySem.W.Frag} {H : Hp} {t u : Addr} {z : Str} {Q : VK} (hs : SeqAt.shaped (.tuple [.str "refused", .str z]) = true) (ht : H t = some (.tup [.str "refused", .str z])) (hu : H u = some (.tup [.str "refused", .str z])) (q : Q (.bl false) H) : rNeD K (.ref t) (.ref u) H Q := by
  refine ⟨_, _, .tup (SqT.of ht) (.cons (.str _) (.cons (.str _) .nil)), .tup (SqT.of hu) (.cons (.str _) (.cons (.str _) .nil)), hs, hs, ?_⟩
  rw [SeqAt.eqv_refl _ (SeqAt.canLay_of_shaped hs)]
  exact q
theorem call_isE' {X : Cx} {a D : Addr} {cls : Value} {d : Option Addr} {oe : Obj} {pn : List (Addr × Obj)} (N : ExcC X.K D) (hz : Zc cls d oe) (hf : ∃ vs, oe.data = .fields vs) : CallR (X.suite a ((a, oe) :: pn)) (.builtin "isinstance") (fun xs H Q => cls = .ref D ∧ d = none ∧ rIsE X.K D a xs H Q) := by
  rintro pins s σ H xs us Q I r ⟨e1, e2, h⟩
  subst e1
  subst e2
  exact call_isE N hz hf pins s σ H xs us Q I r h
section
variable {P : Program} {w : World} {K : PySem.W.Frag} {mg : Str → Option Value} {base : Heap} {Cd C Cp B0 fI cc cda : Addr}
def spSch (Cd C : Addr) : Sp := fun vs H Q _ => spSchedM Cd C vs H Q (EQr C Q)
theorem scLs : FnScope ["disk", "count", "torn", "e"] ["disk", "count", "torn"] (defScope sSched) := ⟨rfl, rfl, rfl, by decide +kernel, rfl, by decide +kernel, by decide +kernel⟩
theorem ok_sch {f fS : Addr} {fd fdS : FuncData} (F : Fun K "_law_schedule" "_law_schedule" sSched f fd) (G : ClsG K Cd) (O : Oor K mg P "OutOfRange" C fI cc cda) (exC : PySem.W.exmOne K (.ref C) (.ref C) = some true)
    (GS : FnOk P w K mg base (L2.CX P w) 3 fS fdS ["self", "many", "torn"] (spSchedM Cd C)) (hS : Meth K Cd "schedule_cut" fS) (bS : Binds K fdS ["self", "many", "torn"] []) : FnOk P w K mg base CX0 4 f fd ["disk", "count", "torn"] (spSch Cd C) := by
  refine F.ok scLs (fun vs H Q E h => ?_) (fun cdv A outer s H vs Q E hr h => ?_)
  · obtain ⟨x, D, p, n, a, t, rfl, _⟩ := h
    rfl
  · obtain ⟨x, D, p, n, a, t, rfl, hd, h2⟩ := id (show spSchedM Cd C vs H Q (EQr C Q) from h)
    have nd := scLs.nd
    have cl := G.cl
    refine ⟨_, pss_one (ps_try_any (Wout := fun _ _ _ _ => False) rfl rfl nd takes0
        (fun W pn xe tk _ => pss_one (ps_ret (pe_methT (E := WE W) (pv 0) cl hS GS (hr.mono (by decide)) bS (fun σ => passAt tk σ) (pa_cons (pv 1) (pa_cons (pv 2) pa_nil)))))
        (.named (i := 3) rfl rfl ⟨rfl, by decide, Or.inl O.gC⟩ (fun a oe cls d pn hz hf => pss_one (ps_ret (pe_tup (pa_cons pe_str (pa_cons (pe_errName O hz hf (pv 3)) pa_nil))))) .nil)), ?_⟩
    refine ⟨_, rfl, x, _, _, rfl, hd.obj, rfl, _, rfl, _, rfl, schedM_mono (fun _ _ q => q) (fun cls d H' ⟨e1, dd, z, e2, hdd, q⟩ => ?_) h⟩
    subst e1
    subst e2
    exact ⟨true, exC, fun _ a _ => ⟨_, rfl, rfl, rfl, dd, _, rfl, hdd, (by show 2 ≤ sizeLine; decide), fun t ht => q t ht⟩, fun y => Bool.noConfusion y⟩
def spDoR (K : PySem.W.Frag) (Cd C Cp : Addr) : Sp := fun vs H Q E => ∃ (x : Addr) (at_ : Int) (v : V) (D : DSt) (p : DPl), vs = [.ref x, .int at_, v] ∧ DiskAt H Cd x D p ∧ ((at_ = -1 ∧ spFlush Cd Cp [.ref x] H Q E) ∨ (at_ ≠ -1 ∧ spWriteM K Cd C Cp [.ref x, .int at_, v] H Q E))
theorem scDr : FnScope ["disk", "at", "block"] ["disk", "at", "block"] (defScope sDoRaw) := ⟨rfl, rfl, rfl, by decide +kernel, rfl, by decide +kernel, by decide +kernel⟩
theorem ok_doR {f fW fF : Addr} {fd fdW fdF : FuncData} (F : Fun K "_law_do_raw" "_law_do_raw" sDoRaw f fd) (G : ClsG K Cd)
    (GW : FnOk P w K mg base (L2.CX P w) 5 fW fdW ["self", "at", "block"] (spWriteM K Cd C Cp)) (hW : Meth K Cd "write" fW) (bW : Binds K fdW ["self", "at", "block"] [])
    (GF : FnOk P w K mg base (L2.CX P w) 5 fF fdF ["self"] (spFlush Cd Cp)) (hF : Meth K Cd "flush" fF) (bF : Binds K fdF ["self"] []) : FnOk P w K mg base (L2.CX P w) 6 f fd ["disk", "at", "block"] (spDoR K Cd C Cp) := by
  refine F.okX scDr (fun vs H Q E h => ?_) (fun cdv A outer s H vs Q E hr h => ?_)
  · obtain ⟨x, at_, v, D, p, rfl, _⟩ := h
    rfl
  · obtain ⟨x, at_, v, D, p, rfl, hd, h⟩ := h
    have cl := G.cl
    refine ⟨_, (pss_cons (ps_if (pt_cmpR op_eq (pv 1) (pe_op op_sub pe_int pe_int) (nomark _)) (pss_one (ps_ret (pe_meth0 (pv 0) cl hF GF (hr.mono (by decide)) bF .nil (passes_call (takes_of rfl rfl rfl rfl) (fun _ _ _ _ h => h))))) pss_nil)
        (pss_one (ps_ret (pe_meth (pv 0) cl hW GW (hr.mono (by decide)) bW .nil (passes_call (takes_of rfl rfl rfl rfl) (fun _ _ _ _ h => h)) (pa_cons (pv 1) (pa_cons (pv 2) pa_nil)))))), ?_⟩
    refine ⟨_, rfl, _, _, rfl, rfl, rfl, _, rfl, ite_int (fun e => ?_) (fun e => ?_)⟩
    · rcases h with ⟨_, h⟩ | ⟨e2, _⟩
      · exact ⟨_, rfl, x, _, _, rfl, hd.obj, rfl, h⟩
      · exact absurd e e2
    · rcases h with ⟨e2, _⟩ | ⟨_, h⟩
      · exact absurd e2 e
      · exact ⟨_, rfl, x, _, _, rfl, hd.obj, rfl, _, rfl, _, rfl, h⟩
def spDo (K : PySem.W.Frag) (Cd C Cp : Addr) : Sp := fun vs H Q _ => spDoR K Cd C Cp vs H Q (EQd C Cp Q)
/-- what is asked of the errors' classes -/
structure ErrK (K : PySem.W.Frag) (mg : Str → Option Value) (C Cp B0 : Addr) : Prop where
  gC : mg "OutOfRange" = some (.ref C)
  gP : mg "PowerCut" = some (.ref Cp)
  gB : mg "ForetoldError" = some (.ref B0)
  N : ExcC K Cp
  ePP : PySem.W.exmOne K (.ref Cp) (.ref Cp) = some true
  eCP : PySem.W.exmOne K (.ref C) (.ref Cp) = some false
  eCC : PySem.W.exmOne K (.ref C) (.ref C) = some true
  kB : PySem.W.kitOne K (.ref Cp) (.ref B0) = some true
  kC : PySem.W.kitOne K (.ref Cp) (.ref C) = some false
  isi : mg "isinstance" = none
theorem scDo : FnScope ["disk", "at", "block", "told", "e"] ["disk", "at", "block"] (defScope sDo) := ⟨rfl, rfl, rfl, by decide +kernel, rfl, by decide +kernel, by decide +kernel⟩
theorem ok_do {f fR : Addr} {fd fdR : FuncData} (F : Fun K "_law_do" "_law_do" sDo f fd) (O : Oor K mg P "OutOfRange" C fI cc cda) (N : ErrK K mg C Cp B0)
    (GR : FnOk P w K mg base (L2.CX P w) 6 fR fdR ["disk", "at", "block"] (spDoR K Cd C Cp)) (mR : mg "_law_do_raw" = some (.ref fR)) (kR : PySem.W.keepIn K (.ref fR) = true) (bR : Binds K fdR ["disk", "at", "block"] []) :
    FnOk P w K mg base CX0 7 f fd ["disk", "at", "block"] (spDo K Cd C Cp) := by
  have gC := N.gC
  have gB := N.gB
  refine F.ok scDo (fun vs H Q E h => ?_) (fun cdv A outer s H vs Q E hr h => ?_)
  · obtain ⟨x, at_, v, D, p, rfl, _⟩ := h
    rfl
  · obtain ⟨x, at_, v, D, p, rfl, hd, h⟩ := h
    have nd := scDo.nd
    refine ⟨_, pss_cons (ps_try_any (Wout := fun _ _ _ _ => False) rfl rfl nd takes0
        (fun W pn xe tk _ => pss_one (ps_set (i := 3) nd rfl (Or.inl rfl) (pe_callS (E := WE W) GR (hr.mono (by decide)) rfl mR kR bR (fun σ => passAt tk σ) (pa_cons (pv 0) (pa_cons (pv 1) (pa_cons (pv 2) pa_nil))))))
        (.named (i := 4) rfl rfl ⟨rfl, by decide, Or.inl N.gP⟩ (fun a oe cls d pn hz hf => pss_cons (ps_if (PW.pt (pw_and (pt_val (pe_callB (call_isE' N.N hz hf) (by rfl) N.isi PyProof.Rows.boot_isinstance (pa_cons (pv 4) (pa_cons (pe_glob (v := .ref B0) rfl gB rfl) pa_nil))))
              (pw_and1 (pt_not (pt_val (pe_callB (call_isE' N.N hz hf) (by rfl) N.isi PyProof.Rows.boot_isinstance (pa_cons (pv 4) (pa_cons (pe_glob (v := .ref C) rfl gC rfl) pa_nil))))))))
            (pss_one (ps_ret (pe_tup (pa_cons pe_str (pa_cons pe_str pa_nil))))) pss_nil) (pss_one (ps_ret (pe_tup (pa_cons pe_str (pa_cons pe_str pa_nil))))))
          (.named (i := 4) rfl rfl ⟨rfl, by decide, Or.inl O.gC⟩ (fun a oe cls d pn hz hf => pss_one (ps_ret (pe_tup (pa_cons pe_str (pa_cons (pe_errName O hz hf (pv 4)) pa_nil))))) .nil))) (pss_one (ps_ret (pv 3))), ?_⟩
    refine ⟨_, rfl, _, rfl, _, rfl, x, at_, v, D, p, rfl, hd, ?_⟩
    have he : ∀ (cls : Value) (d : Option Addr) (H' : Hp), EQd C Cp Q cls d H' → WE (wAny K (fun _ _ _ _ => False) { nx := fun σ H => ∃ x, σ[3]? = some (some x) ∧ Q x H, rt := Q }
        [(.ref Cp, some 4, fun a cls d => tSeq (tIfS (tAnd (tB (tCB (fun xs H Q => cls = .ref Cp ∧ d = none ∧ rIsE K Cp a xs H Q) (tCons (tVar 4) (tCons (tC (.ref B0)) tNil)))) (tNot (tB (tCB (fun xs H Q => cls = .ref Cp ∧ d = none ∧ rIsE K Cp a xs H Q) (tCons (tVar 4) (tCons (tC (.ref C)) tNil))))))
            (tRet (tTup (tCons (tC (.str "refused")) (tCons (tC (.str "cut")) tNil)))) tNext) (tRet (tTup (tCons (tC (.str "refused")) (tCons (tC (.str "other")) tNil))))),
          (.ref C, some 4, fun a cls d => tRet (tTup (tCons (tC (.str "refused")) (tCons (tErrName C a cls d (tVar 4)) tNil))))])
        (start ["disk", "at", "block", "told", "e"] [.ref x, .int at_, v]) cls d H' := fun cls d H' h => by
      rcases h with ⟨e1, dd, z, e2, hdd, q⟩ | ⟨e1, e2, q⟩
      · subst e1
        subst e2
        exact ⟨false, N.eCP, fun y => Bool.noConfusion y, fun _ => ⟨true, N.eCC, fun _ a _ => ⟨_, rfl, rfl, rfl, dd, _, rfl, hdd, (by show 2 ≤ sizeLine; decide), fun t ht => q t ht⟩, fun y => Bool.noConfusion y⟩⟩
      · subst e1
        subst e2
        refine ⟨true, N.ePP, fun _ a _ => ?_, fun y => Bool.noConfusion y⟩
        refine ⟨_, rfl, rfl, rfl, _, .ref B0, true, rfl, fun u r => r, N.kB, _, rfl, ?_⟩
        exact iteT ⟨_, rfl, rfl, rfl, _, .ref C, false, rfl, fun u r => r, N.kC, _, rfl, iteT ⟨(by show 2 ≤ sizeLine; decide), fun t nt => q t nt⟩⟩
    have hq : ∀ (y : V) (H' : Hp), Q y H' → ∃ z, (((start ["disk", "at", "block", "told", "e"] [.ref x, .int at_, v]).set 3 (some y)))[3]? = some (some z) ∧ Q z H' := fun y H' q => ⟨y, rfl, q⟩
    rcases h with ⟨e, h⟩ | ⟨e, h⟩
    · exact .inl ⟨e, flush_mono hq he h⟩
    · exact .inr ⟨e, writeM_mono hq he h⟩
end
end LB

set_option maxRecDepth 100000
set_option maxHeartbeats 8000000
namespace LB
open PySem PySem.Spec PyProof.Rows L2
def spLaw (K : PySem.W.Frag) : Sp := fun vs H Q _ => ∃ (a : Addr) (ns : List Int), vs = [.ref a] ∧ SqL K H a (ns.map V.int) ∧ ∀ H', Q (.bl true) H'
def calmE : XK := fun _ _ _ => False
def noR (sp : Sp) : Sp := fun vs H Q _ => sp vs H Q calmE
structure Defs (K : PySem.W.Frag) (mg : Str → Option Value) (base : Heap) (P : Program) (w : World) (Cd C Cp : Addr) : Prop where
  D : ∃ f fd, FnOk P w K mg base CX0 1 f fd ["box", "many"] (spDraw K) ∧ mg "_law_draw" = some (.ref f) ∧ PySem.W.keepIn K (.ref f) = true ∧ Binds K fd ["box", "many"] []
  G : ∃ f fd, FnOk P w K mg base CX0 2 f fd ["script", "first", "last"] (spDigits K) ∧ mg "_law_digits" = some (.ref f) ∧ PySem.W.keepIn K (.ref f) = true ∧ Binds K fd ["script", "first", "last"] []
  T : ∃ f fd, FnOk P w K mg base CX0 2 f fd ["box", "many"] spLTorn ∧ mg "_law_torn" = some (.ref f) ∧ PySem.W.keepIn K (.ref f) = true ∧ Binds K fd ["box", "many"] []
  S : ∃ f fd, FnOk P w K mg base CX0 4 f fd ["disk", "count", "torn"] (spSch Cd C) ∧ mg "_law_schedule" = some (.ref f) ∧ PySem.W.keepIn K (.ref f) = true ∧ Binds K fd ["disk", "count", "torn"] []
  L : ∃ f fd, FnOk P w K mg base CX0 7 f fd ["disk", "at", "block"] (spDo K Cd C Cp) ∧ mg "_law_do" = some (.ref f) ∧ PySem.W.keepIn K (.ref f) = true ∧ Binds K fd ["disk", "at", "block"] []
  cls : ClsG K Cd
  mD : mg "Disk" = some (.ref Cd)
  I : ∃ f fd, FnOk P w K mg base CX0 2 f fd ["self", "blocks"] (noR (spInitD Cd C)) ∧ Mk K Cd f ∧ Binds K fd ["self", "blocks"] []
  Cw : ∃ f fd, FnOk P w K mg base CX0 3 f fd ["self", "torn"] (noR (spCutP Cd C)) ∧ Meth K Cd "cut_power" f ∧ Binds K fd ["self", "torn"] []
  Re : ∃ f fd, FnOk P w K mg base CX0 3 f fd ["self", "at"] (noR (spReadM Cd C)) ∧ Meth K Cd "read" f ∧ Binds K fd ["self", "at"] []
  Pc : ∃ f fd, FnOk P w K mg base CX0 1 f fd ["self"] (spPend Cd) ∧ Meth K Cd "pending_count" f ∧ Binds K fd ["self"] []
  Cu : ∃ f fd, FnOk P w K mg base CX0 1 f fd ["self"] (spCuts Cd) ∧ Meth K Cd "cut_count" f ∧ Binds K fd ["self"] []
  names : NamesG mg
  min : mg "min" = none
theorem same_make {H H' : Hp} {x dx : Addr} {u : HO} (nx : H x = none) (nd : H dx = none) (ne : dx ≠ x) (e : ∀ b o, b ≠ x → (upd (upd H dx (.own x)) x u) b = some o → H' b = some o) : Same H H' := fun b o h => by
  have b1 : b ≠ x := fun z => by rw [z, nx] at h; cases h
  have b2 : b ≠ dx := fun z => by rw [z, nd] at h; cases h
  exact e b o b1 (by rw [upd_ne b1, upd_ne b2]; exact h)
theorem cut_stop {t : List Int} {wt : List (Int × List Int)} {st : List (List Int)} (h : ∀ b ∈ st, Blk b) (hw : ∀ w ∈ wt, (0 ≤ w.1 ∧ w.1 < (st.length : Int)) ∧ Blk w.2) : cutSt t wt st (min t.length wt.length) = cutSt t wt st wt.length := by
  have step : ∀ n, t.length ≤ n → cutSt t wt st (n + 1) = cutSt t wt st n := fun n hn => by
    rw [cutSt_succ]
    unfold cutStep
    cases e : wt[n]? with
    | none => rfl
    | some w =>
      obtain ⟨w1, w2⟩ := hw w (List.mem_of_getElem? e)
      obtain ⟨_, cl⟩ := cut_blk (t := t) h hw n
      have hi : w.1.toNat < (cutSt t wt st n).length := by rw [cl]; omega
      have k0 : keptOf t n = 0 := by
        unfold keptOf
        rw [List.getD_eq_getElem?_getD, List.getElem?_eq_none hn]
        rfl
      show (cutSt t wt st n).set w.1.toNat (w.2.take (keptOf t n) ++ ((cutSt t wt st n).getD w.1.toNat []).drop (keptOf t n)) = _
      rw [k0, List.take_zero, List.nil_append, List.drop_zero, List.getD_eq_getElem?_getD, List.getElem?_eq_getElem hi]
      exact List.set_getElem_self hi
  have more : ∀ d, cutSt t wt st (t.length + d) = cutSt t wt st t.length := fun d => by
    induction d with
    | zero => rfl
    | succ d ih => rw [← Nat.add_assoc, step _ (Nat.le_add_right ..), ih]
  by_cases c : wt.length ≤ t.length
  · rw [Nat.min_eq_right c]
  · rw [Nat.min_eq_left (by omega), show wt.length = t.length + (wt.length - t.length) by omega, more]
theorem read_blk {D : DSt} (ok : D.Ok) {k : Nat} (hk : k < D.st.length) : Blk (D.readB k) := by
  unfold DSt.readB
  have h0 : Blk (D.st.getD ((k : Int)).toNat []) := by
    rw [Int.toNat_natCast, List.getD_eq_getElem?_getD, List.getElem?_eq_getElem hk]
    exact ok.st _ (List.getElem_mem hk)
  have hw := fun w h => (ok.wt w h).2
  generalize D.st.getD ((k : Int)).toNat [] = b at h0
  generalize D.wt = wt at hw
  induction wt generalizing b with
  | nil => exact h0
  | cons w r ih =>
    refine ih _ ?_ fun v hv => hw v (List.mem_cons_of_mem _ hv)
    show Blk (if w.1 = (k : Int) then w.2 else b)
    split
    · exact hw w (List.mem_cons_self ..)
    · exact h0
theorem sqL_but {K : PySem.W.Frag} {b a : Addr} {H H' : Hp} {ns : List Int} (B : Box H b) (u : But b H H') (h : SqL K H a (ns.map V.int)) : SqL K H' a (ns.map V.int) := by
  obtain ⟨l, ds, k, hb, _⟩ := B
  rcases h with (h | ⟨o, h⟩) | h
  · refine .inl (.inl (u.k _ _ (fun e => ?_) h))
    rw [e, hb] at h
    cases ns with
    | nil => cases h
    | cons n r => cases h
  · exact .inl (.inr ⟨o, u.k _ _ (fun e => by rw [e, hb] at h; cases h) h⟩)
  · exact .inr h
def dSts (st : List (List Int)) : PyData := .list (st.map fun b => .list (b.map PyData.int))
theorem dp_sts {K : PySem.W.Frag} {H : Hp} : ∀ {rs : List (Addr × List Int)}, (∀ q ∈ rs, H q.1 = some (.lst (q.2.map V.int))) → DpAll K H (rs.map fun q => V.ref q.1) ((rs.map (·.2)).map fun b => .list (b.map PyData.int))
  | [], _ => .nil
  | q :: r, h => .cons (.lst (SqL.of (h q (List.mem_cons_self ..))) dpI) (dp_sts fun x hx => h x (List.mem_cons_of_mem _ hx))
theorem shaped_sts (st : List (List Int)) : SeqAt.shaped (dSts st) = true := by
  have h1 : ∀ l : List (List Int), PyData.canLayAll0 (l.map fun b => PyData.list (b.map PyData.int)) = true := by
    intro l
    induction l with
    | nil => rfl
    | cons b r ih =>
      rw [List.map_cons]
      show (PyData.canLayAll0 (b.map PyData.int) && _) = true
      rw [PySem.W.ke_canLayAll0, ih]
      rfl
  have h2 : ∀ l : List (List Int), PyData.depthAll (l.map fun b => PyData.list (b.map PyData.int)) ≤ 1 := by
    intro l
    induction l with
    | nil => exact Nat.zero_le _
    | cons b r ih =>
      rw [List.map_cons]
      show max (PyData.depthAll (b.map PyData.int) + 1) _ ≤ 1
      rw [PySem.W.ke_depthAll]
      omega
  show (PyData.canLayAll0 _ && decide (PyData.depthAll _ + 1 ≤ 64)) = true
  rw [h1, Bool.true_and]
  exact decide_eq_true (Nat.le_trans (Nat.succ_le_succ (h2 _)) (by decide))
/-- how the schedule stands beside the law's numbers -/
def Sch (D : DSt) (lf : Int) (t : List Int) : Prop := ((D.after = none ∧ lf = -1) ∨ (D.after = some lf ∧ 0 ≤ lf ∧ lf ≤ 100000 ∧ D.torn = t)) ∧ okTorn t = true ∧ t.length ≤ 100
/-- the law's own list of bytes -/
structure TA (H0 H : Hp) (x B N : Addr) (p : DPl) (g : LPl) (ta : Addr) (t : List Int) : Prop where
  at_ : H ta = some (.lst (t.map V.int))
  n0 : H0 ta = none
  d : ta ∉ p.all x
  l : ta ∉ g.all B N
section
variable {H0 H H' : Hp} {Cd b x B N ta : Addr} {D E : DSt} {p : DPl} {g : LPl} {t : List Int}
theorem TA.same (h : TA H0 H x B N p g ta t) (S : Same H H') : TA H0 H' x B N p g ta t := ⟨S _ _ h.at_, h.n0, h.d, h.l⟩
theorem TA.but (h : TA H0 H x B N p g ta t) (li : LI H0 H Cd b x B N D E p g) (u : But b H H') : TA H0 H' x B N p g ta t := ⟨u.k ta _ (fun e => by
  obtain ⟨l, ds, k, hb, _⟩ := li.B0
  rw [← e, h.n0] at hb
  cases hb) h.at_, h.n0, h.d, h.l⟩
theorem TA.disk {p' : DPl} (h : TA H0 H x B N p g ta t) (li : LI H0 H Cd b x B N D E p g) (f : FrD p x H H') (n : NewD p p' x H) : TA H0 H' x B N p' g ta t := ⟨f _ _ h.d h.at_, h.n0, fun m => (n ta m).elim h.d (fun z => by rw [h.at_] at z; cases z), h.l⟩
end
section
variable {P : Program} {w : World} {K : PySem.W.Frag} {mg : Str → Option Value} {base : Heap} {Cd C Cp : Addr}
theorem scLaw : FnScope ["script", "box", "size", "disk", "k", "blocks", "pending", "left", "torn", "cuts", "turn", "kind", "handed", "at", "block", "actual", "place", "entry"] ["script"] (defScope sLaw) := ⟨rfl, rfl, rfl, by decide +kernel, rfl, by decide +kernel, by decide +kernel⟩
theorem ok_law {f : Addr} {fd : FuncData} (F : Fun K "law" "law" sLaw f fd) (T : Defs K mg base P w Cd C Cp) : FnG P w K mg base CX0 9 f fd ["script"] (spLaw K) := by
  obtain ⟨_, _, GD, mD, kD, bD⟩ := T.D
  obtain ⟨_, _, GG, mG, kG, bG⟩ := T.G
  obtain ⟨_, _, GT, mT, kT, bT⟩ := T.T
  obtain ⟨_, _, GS, mS, kS, bS⟩ := T.S
  obtain ⟨_, _, GL, mL, kL, bL⟩ := T.L
  obtain ⟨_, _, GI, MI, bI⟩ := T.I
  obtain ⟨_, _, GX, hX, bX⟩ := T.Cw
  obtain ⟨_, _, GY, hY, bY⟩ := T.Re
  obtain ⟨_, _, GP, hP, bP⟩ := T.Pc
  obtain ⟨_, _, GU, hU, bU⟩ := T.Cu
  have M := T.names
  have mMin := T.min
  have mDisk := T.mD
  refine FnG.of_fun F scLaw (fun vs H Q E h => ?_) (fun cdv A outer s H vs Q E gf hr h => ?_)
  · obtain ⟨a, ns, rfl, _⟩ := h
    rfl
  · obtain ⟨a, ns, rfl, hS, q⟩ := h
    have nd := scLaw.nd
    have cl := T.cls.cl
    refine ⟨_, (pss_cons (ps_set (i := 1) nd rfl (Or.inr rfl) (pe_lst (pa_cons (pe_call GG (hr.mono (by decide)) rfl mG kG bG .nil pass0 (pa_cons (pv 0) (pa_cons pe_int (pa_cons pe_int pa_nil)))) (pa_cons pe_int pa_nil))))
        (C8.pss_cut (ps_set (i := 2) nd rfl (Or.inl rfl) (pe_op op_add pe_int (pe_call GD (hr.mono (by decide)) rfl mD kD bD .nil pass0 (pa_cons (pv 1) (pa_cons pe_int pa_nil)))))
        (pss_cons (ps_set (i := 3) nd rfl (Or.inr rfl) (pe_make MI GI (hr.mono (by decide)) rfl mDisk bI .nil pass0 (pa_cons (pv 2) pa_nil)))
        (pss_cons (ps_setLc (i := 5) (own := [("k", 4)]) (g := (gName 4)) rfl nd rfl rfl (sw_true rfl rfl rfl (by decide +kernel)) (pi_range1 (by rfl) M.range (pa_cons (pv 2) pa_nil)) (blkOk_by (N := ["script", "box", "size", "disk", "k", "blocks", "pending", "left", "torn", "cuts", "turn", "kind", "handed", "at", "block", "actual", "place", "entry"]) (sc := (defScope sLaw)) (by decide +kernel)) (fun _ _ _ _ _ => (pg_name (i := 4) nd rfl (Or.inl rfl))) (fun _ _ _ _ _ => pts_nil) (fun _ _ _ _ _ => (pe_op op_rep (pe_lst (pa_cons pe_int pa_nil)) pe_int)))
        (pss_cons (ps_set (i := 6) nd rfl (Or.inl rfl) (pe_lst pa_nil))
        (pss_cons (ps_set (i := 7) nd rfl (Or.inl rfl) (pe_op op_sub pe_int pe_int))
        (pss_cons (ps_set (i := 8) nd rfl (Or.inl rfl) (pe_lst pa_nil))
        (pss_cons (ps_set (i := 9) nd rfl (Or.inl rfl) pe_int)
        (pss_cons (ps_for PassesOwn.never rfl (pi_range1 (by rfl) M.range (pa_cons pe_int pa_nil)) (pg_name (i := 10) nd rfl (Or.inl rfl)) (pss_cons (ps_set (i := 11) nd rfl (Or.inl rfl) (pe_call GD (hr.mono (by decide)) rfl mD kD bD .nil pass0 (pa_cons (pv 1) (pa_cons pe_int pa_nil))))
        (C8.pss_cut (ps_if (PW.pt (pw_or (pt_cmpR op_eq (pv 11) pe_int (nomark _)) (pw_or1 (pt_cmpR op_eq (pv 10) pe_int (nomark _))))) (pss_cons (ps_set (i := 7) nd rfl (Or.inl rfl) (pe_call GD (hr.mono (by decide)) rfl mD kD bD .nil pass0 (pa_cons (pv 1) (pa_cons pe_int pa_nil))))
        (pss_cons (ps_set (i := 8) nd rfl (Or.inl rfl) (pe_call GT (hr.mono (by decide)) rfl mT kT bT .nil pass0 (pa_cons (pv 1) (pa_cons pe_int pa_nil))))
        (pss_cons (ps_set (i := 12) nd rfl (Or.inl rfl) (pe_callTy call_list_of (by rfl) M.list (by decide +kernel) (pa_cons (pv 8) pa_nil)))
        (pss_cons (ps_if (pt_cmpR op_notN (pe_call GS (hr.mono (by decide)) rfl mS kS bS .nil pass0 (pa_cons (pv 3) (pa_cons (pv 7) (pa_cons (pv 12) pa_nil)))) pe_non (nomark _)) (pss_one (ps_ret pe_bl)) pss_nil)
        (pss_cons (ps_expr (pe_bm PySem.F.plainAttrs_list PySem.F.slot_list_append PySem.F.type_list_append mt_append (pv 12) (pa_cons pe_int pa_nil)))
        (pss_cons (ps_if (pt_cmpR (op_neD hr.units) (pe_call GS (hr.mono (by decide)) rfl mS kS bS .nil pass0 (pa_cons (pv 3) (pa_cons (pe_ix ix_list (pe_lst (pa_cons (pe_op op_sub pe_int pe_int) (pa_cons pe_int pa_nil))) (pe_call GD (hr.mono (by decide)) rfl mD kD bD .nil pass0 (pa_cons (pv 1) (pa_cons pe_int pa_nil))) (fun _ _ => rfl)) (pa_cons (pe_lst (pa_cons pe_int pa_nil)) pa_nil)))) (pe_tup (pa_cons pe_str (pa_cons pe_str pa_nil))) (nomark _)) (pss_one (ps_ret pe_bl)) pss_nil)
        (pss_one (ps_if (pt_cmpR (op_neD hr.units) (pe_call GS (hr.mono (by decide)) rfl mS kS bS .nil pass0 (pa_cons (pv 3) (pa_cons pe_int (pa_cons (pe_lst (pa_cons pe_int pa_nil)) pa_nil)))) (pe_tup (pa_cons pe_str (pa_cons pe_str pa_nil))) (nomark _)) (pss_one (ps_ret pe_bl)) pss_nil)))))))) (pss_one (ps_if (PW.pt (pw_and (pt_cmpR op_eq (pv 11) pe_int (nomark _)) (pw_and1 (pt_cmpR op_eq (pe_call GD (hr.mono (by decide)) rfl mD kD bD .nil pass0 (pa_cons (pv 1) (pa_cons pe_int pa_nil))) pe_int (nomark _))))) (pss_cons (ps_expr (pe_meth (pv 3) cl hX GX (hr.mono (by decide)) bX .nil pass0 (pa_cons (pe_lst pa_nil) pa_nil)))
        (pss_cons (ps_set (i := 6) nd rfl (Or.inl rfl) (pe_lst pa_nil))
        (pss_cons (ps_set (i := 7) nd rfl (Or.inl rfl) (pe_op op_sub pe_int pe_int))
        (pss_one (ps_set (i := 9) nd rfl (Or.inl rfl) (pe_op op_add (pv 9) pe_int)))))) (pss_one (ps_if (pt_cmpR op_eq (pv 11) pe_int (nomark _)) (pss_one (ps_if (PW.pt (pw_or (pt_cmpR (op_neD hr.units) (pe_call GL (hr.mono (by decide)) rfl mL kL bL .nil pass0 (pa_cons (pv 3) (pa_cons (pv 2) (pa_cons (pe_op op_rep (pe_lst (pa_cons pe_int pa_nil)) pe_int) pa_nil)))) (pe_tup (pa_cons pe_str (pa_cons pe_str pa_nil))) (nomark _)) (pw_or1 (pt_cmpR (op_neD hr.units) (pe_call GL (hr.mono (by decide)) rfl mL kL bL .nil pass0 (pa_cons (pv 3) (pa_cons pe_int (pa_cons (pe_op op_rep (pe_lst (pa_cons pe_int pa_nil)) pe_int) pa_nil)))) (pe_tup (pa_cons pe_str (pa_cons pe_str pa_nil))) (nomark _))))) (pss_one (ps_ret pe_bl)) pss_nil)) (pss_cons (ps_set (i := 13) nd rfl (Or.inl rfl) (pe_op op_sub pe_int pe_int))
        (C8.pss_cut (ps_if (pt_cmpR op_gt (pv 11) pe_int (nomark _)) (pss_one (ps_set (i := 13) nd rfl (Or.inl rfl) (pe_call GD (hr.mono (by decide)) rfl mD kD bD .nil pass0 (pa_cons (pv 1) (pa_cons (pv 2) pa_nil))))) pss_nil)
        (pss_cons (ps_setLc (i := 14) (own := [("k", 4)]) (g := (gName 4)) rfl nd rfl rfl (sw_true rfl rfl rfl (by decide +kernel)) (pi_range1 (by rfl) M.range (pa_cons pe_int pa_nil)) (blkOk_by (N := ["script", "box", "size", "disk", "k", "blocks", "pending", "left", "torn", "cuts", "turn", "kind", "handed", "at", "block", "actual", "place", "entry"]) (sc := (defScope sLaw)) (by decide +kernel)) (fun _ _ _ _ _ => (pg_name (i := 4) nd rfl (Or.inl rfl))) (fun _ _ _ _ _ => pts_nil) (fun _ _ _ _ _ => (pe_op op_add pe_int (pe_call GD (hr.mono (by decide)) rfl mD kD bD .nil pass0 (pa_cons (pv 1) (pa_cons pe_int pa_nil))))))
        (pss_cons (ps_set (i := 15) nd rfl (Or.inl rfl) (pe_call GL (hr.mono (by decide)) rfl mL kL bL .nil pass0 (pa_cons (pv 3) (pa_cons (pv 13) (pa_cons (pe_callTy call_list_of (by rfl) M.list (by decide +kernel) (pa_cons (pv 14) pa_nil)) pa_nil)))))
        (pss_one (ps_if (pt_cmpR op_eq (pv 7) pe_int (nomark _)) (pss_cons (ps_if (pt_cmpR (op_neD hr.units) (pv 15) (pe_tup (pa_cons pe_str (pa_cons pe_str pa_nil))) (nomark _)) (pss_one (ps_ret pe_bl)) pss_nil)
        (pss_cons (ps_for PassesOwn.never rfl (pi_range1 (by rfl) M.range (pa_cons (pe_callB (call_min2 rfl) (by rfl) mMin (by decide +kernel) (pa_cons (pe_callB call_len_seq (by rfl) M.len PySem.boot_len (pa_cons (pv 8) pa_nil)) (pa_cons (pe_callB call_len_seq (by rfl) M.len PySem.boot_len (pa_cons (pv 6) pa_nil)) pa_nil))) pa_nil)) (pg_name (i := 4) nd rfl (Or.inl rfl)) (pss_cons (ps_set (i := 16) nd rfl (Or.inl rfl) (pe_ix ix_list (pe_ix ix_list (pv 6) (pv 4) (fun _ _ => rfl)) pe_int (fun _ _ => rfl)))
        (pss_one (ps_asg (pe_op op_cat (pe_slice sl_list (pe_ix ix_list (pe_ix ix_list (pv 6) (pv 4) (fun _ _ => rfl)) pe_int (fun _ _ => rfl)) po_none (po_some (pe_ix ix_list (pv 8) (pv 4) (fun _ _ => rfl)))) (pe_slice sl_list (pe_ix ix_list (pv 5) (pv 16) (fun _ _ => rfl)) (po_some (pe_ix ix_list (pv 8) (pv 4) (fun _ _ => rfl))) po_none)) (pg_sub (pv 5) (pv 16) set_list)))))
        (pss_cons (ps_set (i := 6) nd rfl (Or.inl rfl) (pe_lst pa_nil))
        (pss_cons (ps_set (i := 7) nd rfl (Or.inl rfl) (pe_op op_sub pe_int pe_int))
        (pss_one (ps_set (i := 9) nd rfl (Or.inl rfl) (pe_op op_add (pv 9) pe_int))))))) (pss_cons (ps_if (pt_cmpR op_notN (pv 15) pe_non (nomark _)) (pss_one (ps_ret pe_bl)) pss_nil)
        (C8.pss_cut (ps_if (pt_cmpR op_gt (pv 7) pe_int (nomark _)) (pss_one (ps_set (i := 7) nd rfl (Or.inl rfl) (pe_op op_sub (pv 7) pe_int))) pss_nil)
        (pss_one (ps_if (pt_cmpR op_eq (pv 13) (pe_op op_sub pe_int pe_int) (nomark _)) (pss_cons (ps_for PassesOwn.never rfl (pi_list (pv 6)) (pg_name (i := 17) nd rfl (Or.inl rfl)) (pss_one (ps_asg (pe_ix ix_list (pv 17) pe_int (fun _ _ => rfl)) (pg_sub (pv 5) (pe_ix ix_list (pv 17) pe_int (fun _ _ => rfl)) set_list))))
        (pss_one (ps_set (i := 6) nd rfl (Or.inl rfl) (pe_lst pa_nil)))) (pss_one (ps_expr (pe_bm PySem.F.plainAttrs_list PySem.F.slot_list_append PySem.F.type_list_append mt_append (pv 6) (pa_cons (pe_lst (pa_cons (pv 13) (pa_cons (pv 14) pa_nil))) pa_nil)))))))))))))))))))
        (pss_one (ps_if (PW.pt (pw_or (pt_cmpR op_ne (pe_meth0 (pv 3) cl hP GP (hr.mono (by decide)) bP .nil pass0) (pe_callB call_len_seq (by rfl) M.len PySem.boot_len (pa_cons (pv 6) pa_nil)) (nomark _)) (pw_or1 (pt_cmpR op_ne (pe_meth0 (pv 3) cl hU GU (hr.mono (by decide)) bU .nil pass0) (pv 9) (nomark _))))) (pss_one (ps_ret pe_bl)) pss_nil)))))
        (pss_cons (ps_expr (pe_meth (pv 3) cl hX GX (hr.mono (by decide)) bX .nil pass0 (pa_cons (pe_lst pa_nil) pa_nil)))
        (pss_one (ps_ret (pe_cmpR (op_eqD hr.units) (pe_lc (own := [("at", 13)]) (g := (gName 13)) rfl nd (pi_range1 (by rfl) M.range (pa_cons (pv 2) pa_nil)) (blkOk_by (N := ["script", "box", "size", "disk", "k", "blocks", "pending", "left", "torn", "cuts", "turn", "kind", "handed", "at", "block", "actual", "place", "entry"]) (sc := (defScope sLaw)) (by decide +kernel)) (fun _ _ _ _ _ => (pg_name (i := 13) nd rfl (Or.inl rfl))) (fun _ _ _ _ _ => pts_nil) (fun _ _ _ _ _ => (pe_meth (pv 3) cl hY GY (hr.mono (by decide)) bY .nil pass0 (pa_cons (pv 13) pa_nil)))) (pv 5) (nomark _)))))))))))))), ?_⟩
    refine ⟨_, rfl, a, ns, 0, 63, rfl, hS, by decide, by decide, by decide, fun ds H1 l s1 nl hl hd hlen => ⟨(by show 2 ≤ sizeLine; decide), fun b nb => ?_⟩⟩
    have B0 : Box (upd H1 b (.lst [.ref l, .int 0])) b := ⟨l, ds, 0, upd_same, by rw [upd_ne (ne_of_none hl nb)]; exact hl, (ne_of_none hl nb).symm, by decide, hlen⟩
    generalize upd H1 b (.lst [.ref l, .int 0]) = H0 at B0
    clear hS hl hd hlen nl nb s1
    refine ⟨fun σ H' => ∃ n : Nat, 8 ≤ n ∧ n ≤ 400 ∧ σ = [some (.ref a), some (.ref b), some (.int (n : Int)), none, none, none, none, none, none, none, none, none, none, none, none, none, none, none] ∧ Box H' b ∧ But b H0 H', ?_, ?_⟩
    · refine ⟨_, rfl, b, 4, rfl, B0, by decide, fun r1 H1 r10 r11 B1 U1 => ⟨_, _, rfl, rfl, (8 + r1).toNat, by omega, by omega, ?_, B1, U1⟩⟩
      rw [Int.toNat_of_nonneg (by omega)]
      rfl
    rintro σ H2 ⟨n, n8, n400, rfl, B2, U2⟩
    -- the disk
    refine ⟨_, rfl, fun x dx nx ndx ne => ⟨x, dx, (n : Int), rfl, upd_same, fun _ p H3 fr d new => ⟨rfl, ?_⟩, fun bad => absurd ⟨by omega, by omega⟩ bad⟩⟩
    rw [Int.toNat_natCast] at d
    have S3 := same_make nx ndx ne fr
    have newp : ∀ c ∈ p.all x, H2 c = none := fun c hc => by
      rcases new c hc with e | e
      · rw [e]; exact nx
      · by_cases c1 : c = x
        · rw [c1]; exact nx
        · rw [upd_ne c1] at e
          by_cases c2 : c = dx
          · rw [c2]; exact ndx
          · rw [upd_ne c2] at e
            exact e
    have B3 := B2.same S3
    -- the law's own blocks
    refine ⟨_, rfl, _, rfl, by omega, by omega, fun Bl nBl => ?_⟩
    refine lc_range (n := ((n : Nat) : Int).toNat) (fun j H' => Same H3 H' ∧ ∃ rs : List Addr, H' Bl = some (.lst (rs.map V.ref)) ∧ rs.length = j ∧ ∀ r ∈ rs, H3 r = none ∧ r ≠ Bl ∧ H' r = some (.lst ((List.replicate 32 (0 : Int)).map V.int))) ⟨same_new nBl, [], upd_same, rfl, fun r h => (nomatch h)⟩ ?_ ?_
    · rintro j H4 hj ⟨S4, rs, hB, rl, hrs⟩
      refine ⟨rfl, (by show 1 ≤ sizeLine; decide), fun p1 np1 => ⟨p1, 32, _, rfl, rfl, upd_same, by decide, by decide, by decide, fun p2 np2 => ?_⟩⟩
      rw [show ((32 : Int)).toNat = 32 from rfl, rep_flat]
      have X1 := same_new (o := .lst [V.int 0]) np1
      have X := X1.trans (same_new (o := .lst ((List.replicate 32 (0 : Int)).map V.int)) np2)
      have h2 : upd (upd H4 p1 (.lst [V.int 0])) p2 (.lst ((List.replicate 32 (0 : Int)).map V.int)) p2 = some (.lst ((List.replicate 32 (0 : Int)).map V.int)) := upd_same
      have n2 : H3 p2 = none := same_none (S4.trans X1) np2
      have p2S : p2 ≠ Bl := fun e => by rw [e, X1 _ _ hB] at np2; cases np2
      generalize upd (upd H4 p1 (.lst [V.int 0])) p2 (.lst ((List.replicate 32 (0 : Int)).map V.int)) = H5 at X h2
      refine ⟨_, X _ _ hB, ?_, same_upd (S4.trans X) nBl, rs ++ [p2], upd_same.trans (by rw [List.map_append]; rfl), by rw [List.length_append, rl]; rfl, fun r hr => ?_⟩
      · rw [List.length_map]
        exact small_line (by omega)
      · rcases List.mem_append.mp hr with m | m
        · obtain ⟨a1, a2, a3⟩ := hrs r m
          exact ⟨a1, a2, by rw [upd_ne a2]; exact X _ _ a3⟩
        · rw [List.mem_singleton.mp m]
          exact ⟨n2, p2S, by rw [upd_ne p2S]; exact h2⟩
    rintro H4 ⟨S4, rs, hB, rl, hrs⟩
    rw [Int.toNat_natCast] at rl
    refine ⟨(by show 0 ≤ sizeLine; decide), fun N nN => ?_⟩
    have S5 := S4.trans (same_new (o := .lst ([] : List V)) nN)
    have nN3 : H3 N = none := same_none S4 nN
    have NB : N ≠ Bl := fun e => by rw [e, hB] at nN; cases nN
    have hN : upd H4 N (.lst []) N = some (.lst []) := upd_same
    have hB5 : upd H4 N (.lst []) Bl = some (.lst (rs.map V.ref)) := same_new nN _ _ hB
    have hrs5 : ∀ r ∈ rs, H3 r = none ∧ r ≠ Bl ∧ r ≠ N ∧ upd H4 N (.lst []) r = some (.lst ((List.replicate 32 (0 : Int)).map V.int)) := fun r hr => by
      obtain ⟨a1, a2, a3⟩ := hrs r hr
      have a4 : r ≠ N := fun e => by rw [e, nN] at a3; cases a3
      exact ⟨a1, a2, a4, same_new nN _ _ a3⟩
    generalize upd H4 N (.lst []) = H5 at S5 hN hB5 hrs5
    have old3 : ∀ c, H3 c = none → H0 c = none := fun c e => But.offNone B0 (U2.trans (But.of S3)) e
    have li : LI H0 H5 Cd b x Bl N (D0 n) (D0 n) p ⟨rs.map fun r => (r, List.replicate 32 0), []⟩ := by
      refine ⟨B0, B3.same S5, U2.trans (But.of (S3.trans S5)), d.same S5, fun c hc => But.offNone B0 U2 (newp c hc), ⟨?_, fun q hq => ?_, ?_, hN, fun q hq => (nomatch hq), rfl, NB.symm⟩, fun c hc => ?_, fun c hc m => ?_⟩
      · rw [List.map_map]
        exact hB5
      · obtain ⟨r, hr, rfl⟩ := List.mem_map.mp hq
        obtain ⟨a1, a2, a4, a3⟩ := hrs5 r hr
        exact ⟨a3, a2, a4⟩
      · show (rs.map fun r => (r, List.replicate 32 (0 : Int))).map (·.2) = List.replicate n (List.replicate 32 0)
        rw [List.map_map, ← rl]
        exact List.map_const' ..
      · rcases mem_lall.mp hc with e | e | ⟨q, hq, e⟩ | ⟨q, hq, e⟩ | ⟨q, hq, e⟩
        · rw [e]; exact old3 _ nBl
        · rw [e]; exact old3 _ nN3
        · obtain ⟨r, hr, rfl⟩ := List.mem_map.mp hq
          rw [← e]
          exact old3 _ (hrs5 r hr).1
        · exact nomatch hq
        · exact nomatch hq
      · have c3 : H3 c = none := by
          rcases mem_lall.mp hc with e | e | ⟨q, hq, e⟩ | ⟨q, hq, e⟩ | ⟨q, hq, e⟩
          · rw [e]; exact nBl
          · rw [e]; exact nN3
          · obtain ⟨r, hr, rfl⟩ := List.mem_map.mp hq
            rw [← e]
            exact (hrs5 r hr).1
          · exact nomatch hq
          · exact nomatch hq
        exact d.alloc c m c3
    have ok0 : (D0 n).Ok := D0.ok ⟨n8, n400⟩
    -- the turns
    have len0 : (D0 n).st.length = n := List.length_replicate
    refine ⟨_, _, rfl, rfl, (by show 0 ≤ sizeLine; decide), fun ta0 nta0 => ?_⟩
    obtain ⟨w1, w2, w3⟩ := li.new nta0
    have li := li.same (same_new (o := .lst ([] : List V)) nta0)
    have ta0' : TA H0 (upd H5 ta0 (.lst [])) x Bl N p _ ta0 [] := ⟨upd_same, w1, w2, w3⟩
    generalize upd H5 ta0 (.lst []) = H5' at li ta0'
    refine ⟨40, rfl, by decide, by decide, for_range (n := 40) (fun m σ H' => ∃ (D : DSt) (p : DPl) (g : LPl) (N : Addr) (lf : Int) (ta : Addr) (t : List Int) (v4 v10 v11 v12 v13 v14 v15 v16 v17 : Option V), σ = [some (.ref a), some (.ref b), some (.int (n : Int)), some (.ref x), v4, some (.ref Bl), some (.ref N), some (.int lf), some (.ref ta), some (.int D.cuts), v10, v11, v12, v13, v14, v15, v16, v17] ∧
        LI H0 H' Cd b x Bl N D D p g ∧ D.Ok ∧ D.st.length = n ∧ D.wt.length ≤ m ∧ Sch D lf t ∧ TA H0 H' x Bl N p g ta t)
      ⟨D0 n, p, _, N, _, ta0, [], _, _, _, _, _, _, _, _, _, rfl, li, ok0, len0, Nat.zero_le _, ⟨.inl ⟨rfl, rfl⟩, rfl, Nat.zero_le _⟩, ta0'⟩ ?_ ?_⟩
    · skip
      rintro m σ H6 hm ⟨D, p, g, N, lf, ta, t, v4, v10, v11, v12, v13, v14, v15, v16, v17, rfl, li, ok, ln, wl, sc, tA⟩
      refine ⟨_, rfl, b, 10, rfl, li.bx, by decide, fun kd H7 kd0 kd1 B7 U7 => ?_⟩
      have tA := tA.but li U7
      have li := li.but U7 B7
      have few : D.wt.length < 3000 := by omega
      have el : (g.pr.map fun q => V.ref q.1).length = D.wt.length := by rw [← li.l.wt, List.length_map, List.length_map]
      refine ⟨fun σ H' => ∃ (D : DSt) (p : DPl) (g : LPl) (N : Addr) (lf : Int) (ta : Addr) (t : List Int) (v4 v11 v12 v13 v14 v15 v16 v17 : Option V), σ = [some (.ref a), some (.ref b), some (.int (n : Int)), some (.ref x), v4, some (.ref Bl), some (.ref N), some (.int lf), some (.ref ta), some (.int D.cuts), some (.int (0 + (m : Int))), v11, v12, v13, v14, v15, v16, v17] ∧
        LI H0 H' Cd b x Bl N D D p g ∧ D.Ok ∧ D.st.length = n ∧ D.wt.length ≤ m + 1 ∧ Sch D lf t ∧ TA H0 H' x Bl N p g ta t, ?_, ?_⟩
      rotate_left
      · clear li few ok ln wl kd0 kd1 B7 U7 sc tA el
        rintro σ H8 ⟨D, p, g, N, lf, ta, t, v4, v11, v12, v13, v14, v15, v16, v17, rfl, li, ok, ln, wl, sc, tA⟩
        have el : (g.pr.map fun q => V.ref q.1).length = D.wt.length := by rw [← li.l.wt, List.length_map, List.length_map]
        refine ⟨_, rfl, x, _, _, rfl, li.d.obj, rfl, x, D, p, rfl, li.d, _, rfl, N, _, rfl, .inl (SqL.of li.l.hN), rfl, _, rfl, ?_⟩
        rw [el, decide_eq_true rfl]
        refine iteF ⟨_, rfl, x, _, _, rfl, li.d.obj, rfl, x, D, p, rfl, li.d, _, rfl, rfl, _, rfl, ?_⟩
        rw [decide_eq_true rfl]
        exact iteF ⟨D, p, g, N, lf, ta, t, _, _, _, _, _, _, _, _, _, rfl, li, ok, ln, wl, sc, tA⟩
      refine ⟨_, rfl, rfl, _, rfl, ite_int (fun _ => ?_) (fun _ => ⟨_, rfl, rfl, _, rfl, ite_int (fun _ => ?_) (fun _ => ?_)⟩)⟩
      rotate_left 2
      · refine ⟨_, rfl, rfl, _, rfl, ite_int (fun k1 => ⟨_, rfl, b, 4, rfl, li.bx, by decide, fun r H8 r0 r1 B8 U8 => ⟨rfl, _, rfl, ite_int (fun _ => ?_) (fun _ => ?_)⟩⟩) (fun k1 => ?_)⟩
        · -- a cut of nothing
          have tA := tA.but li U8
          have li := li.but U8 B8
          refine ⟨_, rfl, x, _, _, rfl, li.d.obj, rfl, (by show 0 ≤ sizeLine; decide), fun l0 nl0 => ?_⟩
          have tA := tA.same (same_new (o := .lst ([] : List V)) nl0)
          have l0n := li.d.new nl0
          have li := li.same (same_new (o := .lst ([] : List V)) nl0)
          have hl0 : upd H8 l0 (.lst []) l0 = some (.lst (([] : List Int).map V.int)) := upd_same
          generalize upd H8 l0 (.lst []) = H9 at li tA hl0
          refine ⟨x, D, p, l0, [], rfl, li.d, ok, hl0, (fun e => l0n (mem_all.mpr (.inr (.inl e)))), by decide, fun _ p' H10 d10 f10 n10 => ?_, fun bad => absurd bad (by decide)⟩
          have tA := tA.disk li f10 n10
          have li := li.disk d10 f10 n10
          refine ⟨(by show 0 ≤ sizeLine; decide), fun N' nN' => ⟨_, _, rfl, rfl, _, rfl, _, _, rfl, rfl, ?_⟩⟩
          obtain ⟨s1, s2, s3⟩ := li.new nN'
          have nta : N' ≠ ta := fun e => by rw [e, tA.at_] at nN'; cases nN'
          have tA := tA.same (same_new (o := .lst ([] : List V)) nN')
          have l10 := li.same (same_new (o := .lst ([] : List V)) nN')
          have est : cutSt [] D.wt D.st D.wt.length = D.st := (cut_stop (t := []) ok.st ok.wt).symm
          refine ⟨D.cutD [], p', { g with pr := [] }, N', -1, ta, t, _, _, _, _, _, _, _, _, rfl, ⟨l10.B0, l10.bx, l10.U, l10.d, l10.nd, (l10.l.newN upd_same s3).of est rfl, fun c hc => ?_, fun c hc => ?_⟩, ok.cut [], ?_, Nat.zero_le _, ⟨.inl ⟨rfl, rfl⟩, sc.2.1, sc.2.2⟩, ⟨tA.at_, tA.n0, tA.d, fun m => ?_⟩⟩
          · rcases lall_newN hc with m | m
            · exact li.nl c m
            · rw [m]; exact s1
          · rcases lall_newN hc with m | m
            · exact li.dj c m
            · rw [m]; exact s2
          · show (cutSt [] D.wt D.st D.wt.length).length = n
            rw [est]
            exact ln
          · rcases lall_newN m with z | z
            · exact tA.l z
            · exact nta z.symm
        · have tA := tA.but li U8
          have li := li.but U8 B8
          refine ⟨_, rfl, rfl, _, rfl, ite_int (fun _ => ?_) (fun _ => ?_)⟩
          · -- what is refused
            refine ⟨_, rfl, _, rfl, (by show 1 ≤ sizeLine; decide), fun p1 np1 => ⟨p1, 32, _, rfl, rfl, upd_same, by decide, by decide, by decide, fun a1 na1 => ?_⟩⟩
            rw [show ((32 : Int)).toNat = 32 from rfl, rep_flat]
            have S1 := (same_new (o := .lst [V.int 0]) np1).trans (same_new (o := .lst ((List.replicate 32 (0 : Int)).map V.int)) na1)
            have n1 := li.d.new (same_none (same_new np1) na1)
            have li := li.same S1
            have tA := tA.same S1
            have h1 : upd (upd H8 p1 (.lst [V.int 0])) a1 (.lst ((List.replicate 32 (0 : Int)).map V.int)) a1 = some (.lst ((List.replicate 32 (0 : Int)).map V.int)) := upd_same
            generalize upd (upd H8 p1 (.lst [V.int 0])) a1 (.lst ((List.replicate 32 (0 : Int)).map V.int)) = G1 at li tA h1
            refine ⟨x, (n : Int), .ref a1, D, p, rfl, li.d, .inr ⟨by omega, x, D, p, (n : Int), a1, _, rfl, li.d, ok, h1, n1, by decide, few, fun a => absurd a.2 (by rw [ln]; omega), fun a => absurd a.2 (by rw [ln]; omega), fun _ => raises_toldD fun t1 G2 S2 ht1 => ?_, fun a => absurd a.2 (by rw [ln]; omega)⟩⟩
            refine ⟨(by show 2 ≤ sizeLine; decide), fun u1 nu1 => told_ne (by decide +kernel) (same_new nu1 _ _ ht1) upd_same ⟨_, rfl, iteF ?_⟩⟩
            have S3 := S2.trans (same_new (o := .tup [V.str "refused", .str "at"]) nu1)
            have li := li.same S3
            have tA := tA.same S3
            generalize upd G2 u1 (.tup [V.str "refused", .str "at"]) = G3 at li tA
            refine ⟨_, rfl, (by show 1 ≤ sizeLine; decide), fun p2 np2 => ⟨p2, 31, _, rfl, rfl, upd_same, by decide, by decide, by decide, fun a2 na2 => ?_⟩⟩
            rw [show ((31 : Int)).toNat = 31 from rfl, rep_flat]
            have S4 := (same_new (o := .lst [V.int 0]) np2).trans (same_new (o := .lst ((List.replicate 31 (0 : Int)).map V.int)) na2)
            have n2 := li.d.new (same_none (same_new np2) na2)
            have li := li.same S4
            have tA := tA.same S4
            have h2 : upd (upd G3 p2 (.lst [V.int 0])) a2 (.lst ((List.replicate 31 (0 : Int)).map V.int)) a2 = some (.lst ((List.replicate 31 (0 : Int)).map V.int)) := upd_same
            generalize upd (upd G3 p2 (.lst [V.int 0])) a2 (.lst ((List.replicate 31 (0 : Int)).map V.int)) = G4 at li tA h2
            refine ⟨x, 0, .ref a2, D, p, rfl, li.d, .inr ⟨by decide, x, D, p, 0, a2, _, rfl, li.d, ok, h2, n2, by decide, few, fun _ o => absurd o (by decide +kernel), fun _ o => absurd o (by decide +kernel), fun na => absurd ⟨by decide, by rw [ln]; omega⟩ na, fun _ _ => raises_toldD fun t2 G5 S5 ht2 => ?_⟩⟩
            refine ⟨(by show 2 ≤ sizeLine; decide), fun u2 nu2 => told_ne (by decide +kernel) (same_new nu2 _ _ ht2) upd_same ⟨_, rfl, iteF ?_⟩⟩
            have S6 := S5.trans (same_new (o := .tup [V.str "refused", .str "block"]) nu2)
            exact ⟨D, p, g, N, lf, ta, t, _, _, _, _, _, _, _, _, rfl, li.same S6, ok, ln, by omega, sc, tA.same S6⟩
          · -- a write or a flush
            refine ⟨_, _, rfl, rfl, ?_⟩
            refine ⟨fun σ H' => ∃ at_ : Int, (at_ = -1 ∨ (0 ≤ at_ ∧ at_ < (n : Int))) ∧ σ = [some (.ref a), some (.ref b), some (.int (n : Int)), some (.ref x), v4, some (.ref Bl), some (.ref N), some (.int lf), some (.ref ta), some (.int D.cuts), some (.int (0 + (m : Int))), some (.int kd), v12, some (.int at_), v14, v15, v16, v17] ∧ LI H0 H' Cd b x Bl N D D p g ∧ TA H0 H' x Bl N p g ta t, ?_, ?_⟩
            · refine ⟨_, rfl, _, _, rfl, rfl, _, rfl, ite2 (fun _ => ?_) (fun _ => ⟨-1, .inl rfl, rfl, li, tA⟩)⟩
              exact ⟨_, rfl, _, rfl, b, (n : Int), rfl, li.bx, by omega, fun r G1 r0 r1 B1 U1 => ⟨r, .inr ⟨r0, r1⟩, rfl, li.but U1 B1, tA.but li U1⟩⟩
            clear li tA
            rintro σ G1 ⟨at_, hat, rfl, li, tA⟩
            refine ⟨32, rfl, by decide, by decide, fun ba nba => ?_⟩
            obtain ⟨q1, q2, q3⟩ := li.new nba
            have bab : ba ≠ b := fun e => by
              obtain ⟨l', ds', k', hb', _⟩ := li.B0
              rw [← e, q1] at hb'
              cases hb'
            have tba : ta ≠ ba := fun e => by rw [← e, tA.at_] at nba; cases nba
            refine lc_range (n := 32) (fun j H' => ∃ bb : List Int, H' ba = some (.lst (bb.map V.int)) ∧ bb.length = j ∧ (∀ v ∈ bb, 0 ≤ v ∧ v ≤ 255) ∧ LI H0 H' Cd b x Bl N D D p g ∧ TA H0 H' x Bl N p g ta t) ⟨[], upd_same, rfl, (fun v h => nomatch h), li.same (same_new nba), tA.same (same_new nba)⟩ ?_ ?_
            · rintro j G2 hj ⟨bb, hba, bl, bv, l2, t2⟩
              refine ⟨rfl, _, rfl, b, 255, rfl, l2.bx, by decide, fun v G3 w0 w1 B3 U3 => ⟨_, _, rfl, rfl, ?_⟩⟩
              have hba3 := U3.k ba _ bab hba
              have l3 := l2.but U3 B3
              have t3 := t2.but l2 U3
              refine ⟨_, hba3, (by rw [List.length_map]; exact small_line (by omega)), bb ++ [1 + v], upd_same.trans (congrArg some lst_more), by rw [List.length_append, bl]; rfl, fun y hy => ?_, l3.put q1 q2 q3, ⟨(upd_ne tba).trans t3.at_, t3.n0, t3.d, t3.l⟩⟩
              rcases List.mem_append.mp hy with z | z
              · exact bv y z
              · rw [List.mem_singleton.mp z]
                omega
            clear li tA
            rintro G2 ⟨bb, hba, bl, bv, li, tA⟩
            have hblk : Blk bb := ⟨bl, bv⟩
            refine ⟨_, rfl, _, rfl, _, rfl, ba, _, rfl, .inl (SqL.of hba), fun lb nlb => ?_⟩
            obtain ⟨h1, h2, h3⟩ := li.new nlb
            have hba := same_new (o := .lst (bb.map V.int)) nlb _ _ hba
            have li := li.same (same_new (o := .lst (bb.map V.int)) nlb)
            have tA := tA.same (same_new (o := .lst (bb.map V.int)) nlb)
            have hlb : upd G2 lb (.lst (bb.map V.int)) lb = some (.lst (bb.map V.int)) := upd_same
            generalize upd G2 lb (.lst (bb.map V.int)) = G3 at li tA hba hlb
            refine ⟨x, at_, .ref lb, D, p, rfl, li.d, ?_⟩
            rcases hat with rfl | ⟨a0, a1⟩
            · refine .inl ⟨rfl, x, D, p, rfl, li.d, ok, fun D' em p' G4 d4 f4 n4 => ?_, fun em p' G4 d4 f4 n4 => .inr ⟨rfl, rfl, fun tt ntt => ?_⟩⟩
              · obtain ⟨ok', eS, eW, eC, eT⟩ := ok.met em
                have tA4 := tA.disk li f4 n4
                have li4 := li.disk d4 f4 n4
                have lf0 : lf ≠ 0 := by
                  rcases sc.1 with ⟨_, e⟩ | ⟨af, _⟩
                  · omega
                  · intro z
                    unfold DSt.met at em
                    rw [af] at em
                    have em : (if lf = 0 then none else some { D with after := some (lf - 1) }) = some D' := em
                    rw [if_pos z] at em
                    cases em
                refine ⟨_, rfl, rfl, _, rfl, ite_int (fun z => absurd z lf0) (fun _ => ?_)⟩
                refine ⟨_, rfl, rfl, _, rfl, iteF ?_⟩
                refine ⟨fun σ H' => ∃ lf' : Int, Sch D' lf' t ∧ σ = [some (.ref a), some (.ref b), some (.int (n : Int)), some (.ref x), v4, some (.ref Bl), some (.ref N), some (.int lf'), some (.ref ta), some (.int D.cuts), some (.int (0 + (m : Int))), some (.int kd), v12, some (.int (-1)), some (.ref ba), some .non, v16, v17] ∧ H' = G4, ?_, ?_⟩
                · rcases sc.1 with ⟨af, e⟩ | ⟨af, l0, l1, eT'⟩
                  · have eD : D' = D := by
                      unfold DSt.met at em
                      rw [af] at em
                      exact (Option.some.inj em).symm
                    refine ⟨_, rfl, _, _, rfl, rfl, _, rfl, ite2 (fun c => absurd (of_decide_eq_true c) (by omega)) (fun _ => ⟨lf, ⟨.inl ⟨by rw [eD]; exact af, e⟩, sc.2⟩, rfl, rfl⟩)⟩
                  · have eD : D' = { D with after := some (lf - 1) } := by
                      unfold DSt.met at em
                      rw [af] at em
                      have em : (if lf = 0 then none else some { D with after := some (lf - 1) }) = some D' := em
                      rw [if_neg lf0] at em
                      exact (Option.some.inj em).symm
                    refine ⟨_, rfl, _, _, rfl, rfl, _, rfl, ite2 (fun _ => ?_) (fun c => absurd (decide_eq_true (by omega)) c)⟩
                    exact ⟨_, rfl, _, _, rfl, rfl, lf - 1, ⟨.inr ⟨by rw [eD], by omega, by omega, by rw [eD]; exact eT'⟩, sc.2⟩, rfl, rfl⟩
                rintro σ H' ⟨lf', sc', rfl, rfl⟩
                refine ⟨_, rfl, _, _, rfl, rfl, rfl, _, rfl, ite_int (fun _ => ?_) (fun z => absurd rfl z)⟩
                refine ⟨_, rfl, N, rfl, ⟨_, SqL.of li4.l.hN⟩, ?_⟩
                refine for_list (K := K) (xs := g.pr.map fun q => V.ref q.1) (fun j σ G5 => ∃ (br : List (Addr × List Int)) (v17 : Option V), σ = [some (.ref a), some (.ref b), some (.int (n : Int)), some (.ref x), v4, some (.ref Bl), some (.ref N), some (.int lf'), some (.ref ta), some (.int D.cuts), some (.int (0 + (m : Int))), some (.int kd), v12, some (.int (-1)), some (.ref ba), some .non, v16, v17] ∧
                    LI H0 G5 Cd b x Bl N D'.flushD { D with st := flushSt (D.wt.take j) D.st } p' { g with br := br } ∧ TA H0 G5 x Bl N p' { g with br := br } ta t)
                  ⟨g.br, _, rfl, li4, tA4⟩ (fun j σ G5 _ ⟨br, _, _, l', _⟩ => SqL.of (show G5 N = some (.lst (g.pr.map fun q => V.ref q.1)) from l'.l.hN)) ?_ ?_
                · rintro j y σ H9 hy ⟨br, v17, rfl, l9, t9⟩
                  rw [List.getElem?_map] at hy
                  obtain ⟨q, hq, rfl⟩ := Option.map_eq_some_iff.mp hy
                  have hw : D.wt[j]? = some (q.2.1, q.2.2.2) := by rw [← li.l.wt, List.getElem?_map, hq]; rfl
                  obtain ⟨wk, wb⟩ := ok.wt _ (List.mem_of_getElem? hw)
                  obtain ⟨ht, hb, n1, n2, n3, n4⟩ := l9.l.pr q (List.mem_of_getElem? hq)
                  obtain ⟨cb, cl2⟩ := flush_blk (wt := D.wt.take j) ok.st rfl fun w hw => ok.wt w (List.mem_of_mem_take hw)
                  have brl : br.length = D.st.length := by
                    have := congrArg List.length l9.l.st
                    rw [List.length_map] at this
                    exact this.trans cl2
                  obtain ⟨k, ek⟩ : ∃ k : Nat, q.2.1 = (k : Int) := ⟨q.2.1.toNat, by have := wk.1; show q.2.1 = _; simp only at this; omega⟩
                  have hkl : k < br.length := by have := wk.2; simp only at this; omega
                  refine ⟨_, rfl, q.1, _, _, _, rfl, rfl, SqL.of ht, rfl, _, rfl, _, rfl, q.1, _, _, _, rfl, rfl, SqL.of ht, rfl, ?_⟩
                  rw [ek]
                  have mB : Bl ∈ LPl.all { g with br := br } Bl N := mem_lall.mpr (.inl rfl)
                  have mq : q.2.2.1 ∈ LPl.all { g with br := br } Bl N := mem_lall.mpr (.inr (.inr (.inr (.inr ⟨q, List.mem_of_getElem? hq, rfl⟩))))
                  refine ⟨Bl, _, _, k, rfl, rfl, l9.l.hB, ixN_at (by rw [List.length_map]; exact hkl), br.set k (q.2.2.1, q.2.2.2), _, rfl, ?_, ⟨(upd_ne (show ta ≠ Bl from fun e => t9.l (e ▸ mB))).trans t9.at_, t9.n0, t9.d, fun m => ?_⟩⟩
                  · have es : flushSt (D.wt.take (j + 1)) D.st = (flushSt (D.wt.take j) D.st).set k q.2.2.2 := by
                      rw [takeS hw]
                      unfold flushSt
                      rw [List.foldl_append]
                      show List.set (List.foldl _ _ _) q.2.1.toNat q.2.2.2 = _
                      rw [ek, Int.toNat_natCast]
                    rw [es]
                    refine l9.law (l9.nl _ mB) (l9.dj _ mB) (l9.l.setB (k := k) hb n3 n4) fun c hc => ?_
                    rcases lall_setB (g := { g with br := br }) hc with m | m
                    · exact ⟨l9.nl _ m, l9.dj _ m⟩
                    · rw [m]
                      exact ⟨l9.nl _ mq, l9.dj _ mq⟩
                  · rcases lall_setB (g := { g with br := br }) m with z | z
                    · exact t9.l z
                    · exact t9.l (z ▸ mq)
                · rintro σ H9 ⟨br, v17, rfl, l9, t9⟩
                  rw [el, List.take_length] at l9
                  refine ⟨(by show 0 ≤ sizeLine; decide), fun N' nN' => ?_⟩
                  obtain ⟨s1, s2, s3⟩ := l9.new nN'
                  have taN : ta ≠ N' := fun e => by rw [← e, t9.at_] at nN'; cases nN'
                  have l10 := l9.same (same_new (o := .lst ([] : List V)) nN')
                  have t10 := t9.same (same_new (o := .lst ([] : List V)) nN')
                  have eF : D'.flushD.st = flushSt D.wt D.st := by show flushSt D'.wt D'.st = _; rw [eS, eW]
                  rw [← eC]
                  refine ⟨D'.flushD, p', { g with br := br, pr := [] }, N', lf', ta, t, _, _, _, _, _, _, _, _, rfl, ⟨l10.B0, l10.bx, l10.U, l10.d, l10.nd, (l10.l.newN upd_same s3).of eF rfl, fun c hc => ?_, fun c hc => ?_⟩, ok'.flush, by rw [eF]; exact (flush_blk ok.st rfl ok.wt).2.trans ln, Nat.zero_le _, sc', ⟨t10.at_, t10.n0, t10.d, fun m => ?_⟩⟩
                  · rcases lall_newN (g := { g with br := br }) hc with m | m
                    · exact l9.nl c m
                    · rw [m]; exact s1
                  · rcases lall_newN (g := { g with br := br }) hc with m | m
                    · exact l9.dj c m
                    · rw [m]; exact s2
                  · rcases lall_newN (g := { g with br := br }) m with z | z
                    · exact t9.l z
                    · exact taN z
              · have tA4 := tA.disk li f4 n4
                have li4 := li.disk d4 f4 n4
                obtain ⟨e0, eT⟩ : lf = 0 ∧ D.torn = t := by
                  rcases sc.1 with ⟨af, _⟩ | ⟨af, _, _, eT⟩
                  · unfold DSt.met at em
                    rw [af] at em
                    cases em
                  · unfold DSt.met at em
                    rw [af] at em
                    by_cases z : lf = 0
                    · exact ⟨z, eT⟩
                    · have em : (if lf = 0 then none else some { D with after := some (lf - 1) }) = (none : Option DSt) := em
                      rw [if_neg z] at em
                      cases em
                rw [eT] at li4
                have li4 := li4.same (same_new (o := .tup [V.str "refused", .str "cut"]) ntt)
                have tA4 := tA4.same (same_new (o := .tup [V.str "refused", .str "cut"]) ntt)
                have htt : upd G4 tt (.tup [V.str "refused", .str "cut"]) tt = some (.tup [V.str "refused", .str "cut"]) := upd_same
                generalize upd G4 tt (.tup [V.str "refused", .str "cut"]) = G5 at li4 tA4 htt
                refine ⟨_, rfl, rfl, _, rfl, ite_int (fun _ => ?_) (fun z => absurd e0 z)⟩
                refine ⟨_, rfl, (by show 2 ≤ sizeLine; decide), fun u1 nu1 => told_ne (by decide +kernel) (same_new nu1 _ _ htt) upd_same ⟨_, rfl, iteF ?_⟩⟩
                have li5 := li4.same (same_new (o := .tup [V.str "refused", .str "cut"]) nu1)
                have tA5 := tA4.same (same_new (o := .tup [V.str "refused", .str "cut"]) nu1)
                generalize upd G5 u1 (.tup [V.str "refused", .str "cut"]) = G6 at li5 tA5
                refine ⟨_, rfl, ta, _, rfl, .inl (SqL.of tA5.at_), _, rfl, N, _, rfl, .inl (SqL.of li5.l.hN), _, _, rfl, ?_⟩
                rw [el, List.length_map]
                obtain ⟨mm, emm, emin⟩ : ∃ mm : Nat, (if (D.wt.length : Int) < (t.length : Int) then (D.wt.length : Int) else (t.length : Int)) = (mm : Int) ∧ mm = min t.length D.wt.length := by
                  refine ⟨min t.length D.wt.length, ?_, rfl⟩
                  split <;> omega
                rw [emm]
                have mmb : mm ≤ 3000 := by rw [emin]; omega
                refine ⟨_, rfl, by omega, by omega, for_range (n := ((mm : Nat) : Int).toNat) (fun j σ H' => ∃ (br : List (Addr × List Int)) (v4 v16 : Option V), σ = [some (.ref a), some (.ref b), some (.int (n : Int)), some (.ref x), v4, some (.ref Bl), some (.ref N), some (.int lf), some (.ref ta), some (.int D.cuts), some (.int (0 + (m : Int))), some (.int kd), v12, some (.int (-1)), some (.ref ba), some (.ref tt), v16, v17] ∧
                    LI H0 H' Cd b x Bl N (D.cutD t) { D with st := cutSt t D.wt D.st j } p' { g with br := br } ∧ TA H0 H' x Bl N p' { g with br := br } ta t)
                  ⟨g.br, _, _, rfl, li5, tA5⟩ ?_ ?_⟩
                · rintro j σ H12 hj ⟨br, v4, v16, rfl, l9, t9⟩
                  rw [Int.toNat_natCast] at hj
                  have hjw : j < g.pr.length := by rw [← List.length_map (f := fun q => V.ref q.1), el]; omega
                  have hjt : j < t.length := by omega
                  have hq := List.getElem?_eq_getElem hjw
                  generalize g.pr[j] = q at hq
                  have hw : D.wt[j]? = some (q.2.1, q.2.2.2) := by rw [← li.l.wt, List.getElem?_map, hq]; rfl
                  obtain ⟨wk, wb⟩ := ok.wt _ (List.mem_of_getElem? hw)
                  obtain ⟨ht, hb, n1, n2, n3, n4⟩ := l9.l.pr q (List.mem_of_getElem? hq)
                  obtain ⟨cb, cl2⟩ := cut_blk (t := t) ok.st ok.wt j
                  have brl : br.length = D.st.length := by
                    have := congrArg List.length l9.l.st
                    rw [List.length_map] at this
                    exact this.trans cl2
                  obtain ⟨k, ek⟩ : ∃ k : Nat, q.2.1 = (k : Int) := ⟨q.2.1.toNat, by have := wk.1; show q.2.1 = _; simp only at this; omega⟩
                  have hkl : k < br.length := by have := wk.2; simp only at this; omega
                  have hg := List.getElem?_eq_getElem hkl
                  generalize br[k] = q0 at hg
                  obtain ⟨r0', b0⟩ := q0
                  have hr0 := (l9.l.br _ (List.mem_of_getElem? hg)).1
                  have e0 : (cutSt t D.wt D.st j).getD k [] = b0 := by
                    have e : br.map (·.2) = cutSt t D.wt D.st j := l9.l.st
                    rw [← e, List.getD_eq_getElem?_getD, List.getElem?_map, hg]
                    rfl
                  have hb0 : Blk b0 := by
                    rw [← e0, List.getD_eq_getElem?_getD, List.getElem?_eq_getElem (by rw [cl2]; omega)]
                    exact cb _ (List.getElem_mem _)
                  have tg : t.getD j 0 = ((keptOf t j : Nat) : Int) ∧ keptOf t j ≤ 32 := by
                    have := List.all_eq_true.mp sc.2.1 (t.getD j 0) (by
                      rw [List.getD_eq_getElem?_getD, List.getElem?_eq_getElem hjt]
                      exact List.getElem_mem hjt)
                    rw [Bool.and_eq_true] at this
                    have h1 := of_decide_eq_true this.1
                    have h2 := of_decide_eq_true this.2
                    unfold keptOf
                    omega
                  have at_t : atI (t.map V.int) ((j : Nat) : Int) = some (.int ((keptOf t j : Nat) : Int)) := by
                    rw [← tg.1]
                    exact atI_get hjt
                  have at_p : atI (g.pr.map fun q => V.ref q.1) ((j : Nat) : Int) = some (.ref q.1) := atI_nat (j := j) (by rw [List.getElem?_map, hq]; rfl)
                  rw [Int.zero_add (j : Int)]
                  refine ⟨_, rfl, _, rfl, N, _, _, _, rfl, rfl, SqL.of l9.l.hN, at_p, q.1, _, _, _, rfl, rfl, SqL.of ht, rfl, ?_⟩
                  rw [ek]
                  refine ⟨_, rfl, _, rfl, N, _, _, _, rfl, rfl, SqL.of l9.l.hN, at_p, q.1, _, _, _, rfl, rfl, SqL.of ht, rfl, _, rfl, _, rfl, ta, _, _, _, rfl, rfl, SqL.of t9.at_, at_t, _, rfl, q.2.2.1, _, rfl, SqL.of hb, fun p1 np1 => ?_⟩
                  rw [cutV_int, cutA_head _ _ (by rw [wb.1]; exact tg.2)]
                  have X1 := same_new (o := .lst ((q.2.2.2.take (keptOf t j)).map V.int)) np1
                  have h1p : upd H12 p1 (.lst ((q.2.2.2.take (keptOf t j)).map V.int)) p1 = some (.lst ((q.2.2.2.take (keptOf t j)).map V.int)) := upd_same
                  generalize upd H12 p1 (.lst ((q.2.2.2.take (keptOf t j)).map V.int)) = H13 at X1 h1p
                  have l13 := l9.same X1
                  refine ⟨_, rfl, _, rfl, Bl, _, _, _, rfl, rfl, SqL.of l13.l.hB, atI_nat (j := k) (by rw [List.getElem?_map, hg]; rfl), _, rfl, _, rfl, ta, _, _, _, rfl, rfl, SqL.of (X1 _ _ t9.at_), at_t, _, rfl, r0', _, rfl, SqL.of (X1 _ _ hr0), fun p2 np2 => ?_⟩
                  rw [cutV_int, cutA_tail _ _ (by rw [hb0.1]; exact tg.2)]
                  refine ⟨p1, p2, _, _, rfl, rfl, same_new np2 _ _ h1p, upd_same, ?_, fun p3 np3 => ?_⟩
                  · rw [List.length_map, List.length_map, List.length_take, List.length_drop, wb.1, hb0.1]
                    exact Nat.le_trans (m := 64) (by have := tg.2; omega) (by decide)
                  rw [← List.map_append]
                  have X3 := (X1.trans (same_new (o := .lst ((b0.drop (keptOf t j)).map V.int)) np2)).trans (same_new (o := .lst ((q.2.2.2.take (keptOf t j) ++ b0.drop (keptOf t j)).map V.int)) np3)
                  have h3p : upd (upd H13 p2 (.lst ((b0.drop (keptOf t j)).map V.int))) p3 (.lst ((q.2.2.2.take (keptOf t j) ++ b0.drop (keptOf t j)).map V.int)) p3 = some (.lst ((q.2.2.2.take (keptOf t j) ++ b0.drop (keptOf t j)).map V.int)) := upd_same
                  have n3' : H12 p3 = none := same_none (X1.trans (same_new np2)) np3
                  generalize upd (upd H13 p2 (.lst ((b0.drop (keptOf t j)).map V.int))) p3 (.lst ((q.2.2.2.take (keptOf t j) ++ b0.drop (keptOf t j)).map V.int)) = H14 at X3 h3p
                  obtain ⟨s1, s2, s3⟩ := l9.new n3'
                  have tap : ta ≠ p3 := fun e => by rw [← e, t9.at_] at n3'; cases n3'
                  have l14 := l9.same X3
                  have t14 := t9.same X3
                  have mB : Bl ∈ LPl.all { g with br := br } Bl N := mem_lall.mpr (.inl rfl)
                  have mN : N ∈ LPl.all { g with br := br } Bl N := mem_lall.mpr (.inr (.inl rfl))
                  have taB : ta ≠ Bl := fun e => t9.l (e ▸ mB)
                  refine ⟨_, rfl, _, rfl, Bl, _, _, k, rfl, rfl, l14.l.hB, ixN_at (by rw [List.length_map]; exact hkl), br.set k (p3, q.2.2.2.take (keptOf t j) ++ b0.drop (keptOf t j)), _, _, rfl, ?_, ⟨(upd_ne taB).trans t14.at_, t14.n0, t14.d, fun m => ?_⟩⟩
                  · have es : cutSt t D.wt D.st (j + 1) = (cutSt t D.wt D.st j).set k (q.2.2.2.take (keptOf t j) ++ b0.drop (keptOf t j)) := by
                      rw [cutSt_succ]
                      unfold cutStep
                      rw [hw]
                      show (cutSt t D.wt D.st j).set q.2.1.toNat (q.2.2.2.take (keptOf t j) ++ ((cutSt t D.wt D.st j).getD q.2.1.toNat []).drop (keptOf t j)) = _
                      rw [ek, Int.toNat_natCast, e0]
                    rw [es]
                    refine l14.law (l14.nl _ mB) (l14.dj _ mB) (l14.l.setB (k := k) h3p (fun e => s3 (e ▸ mB)) (fun e => s3 (e ▸ mN))) fun c hc => ?_
                    rcases lall_setB (g := { g with br := br }) hc with m | m
                    · exact ⟨l14.nl _ m, l14.dj _ m⟩
                    · rw [m]
                      exact ⟨s1, s2⟩
                  · rcases lall_setB (g := { g with br := br }) m with z | z
                    · exact t9.l z
                    · exact tap z
                · rintro σ H12 ⟨br, v4, v16, rfl, l9, t9⟩
                  rw [Int.toNat_natCast] at l9
                  refine ⟨(by show 0 ≤ sizeLine; decide), fun N' nN' => ⟨_, _, rfl, rfl, _, rfl, _, _, rfl, rfl, ?_⟩⟩
                  obtain ⟨s1, s2, s3⟩ := l9.new nN'
                  have taN : ta ≠ N' := fun e => by rw [← e, t9.at_] at nN'; cases nN'
                  have l10 := l9.same (same_new (o := .lst ([] : List V)) nN')
                  have t10 := t9.same (same_new (o := .lst ([] : List V)) nN')
                  have est : cutSt t D.wt D.st mm = cutSt t D.wt D.st D.wt.length := by rw [emin]; exact cut_stop ok.st ok.wt
                  rw [est] at l10
                  refine ⟨D.cutD t, p', { g with br := br, pr := [] }, N', -1, ta, t, _, _, _, _, _, _, _, _, rfl, ⟨l10.B0, l10.bx, l10.U, l10.d, l10.nd, (l10.l.newN upd_same s3).of rfl rfl, fun c hc => ?_, fun c hc => ?_⟩, ok.cut t, (cut_blk (t := t) ok.st ok.wt D.wt.length).2.trans ln, Nat.zero_le _, ⟨.inl ⟨rfl, rfl⟩, sc.2.1, sc.2.2⟩, ⟨t10.at_, t10.n0, t10.d, fun m => ?_⟩⟩
                  · rcases lall_newN (g := { g with br := br }) hc with m | m
                    · exact l9.nl c m
                    · rw [m]; exact s1
                  · rcases lall_newN (g := { g with br := br }) hc with m | m
                    · exact l9.dj c m
                    · rw [m]; exact s2
                  · rcases lall_newN (g := { g with br := br }) m with z | z
                    · exact t9.l z
                    · exact taN z
            · refine .inr ⟨by omega, x, D, p, at_, lb, bb, rfl, li.d, ok, hlb, h2, by rw [hblk.1]; decide, few, fun _ _ D' em p' G4 d4 f4 n4 => ?_, fun _ _ em p' G4 d4 f4 n4 => .inr ⟨rfl, rfl, fun tt ntt => ?_⟩, fun na => absurd (by rw [ln]; exact ⟨a0, a1⟩) na, fun _ nob => absurd ((blk_ok hblk).symm.trans nob) (by decide)⟩
              · obtain ⟨ok', eS, eW, eC, eT⟩ := ok.met em
                have tA4 := tA.disk li f4 n4
                have li4 := li.disk d4 f4 n4
                have lf0 : lf ≠ 0 := by
                  rcases sc.1 with ⟨_, e⟩ | ⟨af, _⟩
                  · omega
                  · intro z
                    unfold DSt.met at em
                    rw [af] at em
                    have em : (if lf = 0 then none else some { D with after := some (lf - 1) }) = some D' := em
                    rw [if_pos z] at em
                    cases em
                refine ⟨_, rfl, rfl, _, rfl, ite_int (fun z => absurd z lf0) (fun _ => ?_)⟩
                refine ⟨_, rfl, rfl, _, rfl, iteF ?_⟩
                refine ⟨fun σ H' => ∃ lf' : Int, Sch D' lf' t ∧ σ = [some (.ref a), some (.ref b), some (.int (n : Int)), some (.ref x), v4, some (.ref Bl), some (.ref N), some (.int lf'), some (.ref ta), some (.int D.cuts), some (.int (0 + (m : Int))), some (.int kd), v12, some (.int at_), some (.ref ba), some .non, v16, v17] ∧ H' = G4, ?_, ?_⟩
                · rcases sc.1 with ⟨af, e⟩ | ⟨af, l0, l1, eT'⟩
                  · have eD : D' = D := by
                      unfold DSt.met at em
                      rw [af] at em
                      exact (Option.some.inj em).symm
                    refine ⟨_, rfl, _, _, rfl, rfl, _, rfl, ite2 (fun c => absurd (of_decide_eq_true c) (by omega)) (fun _ => ⟨lf, ⟨.inl ⟨by rw [eD]; exact af, e⟩, sc.2⟩, rfl, rfl⟩)⟩
                  · have eD : D' = { D with after := some (lf - 1) } := by
                      unfold DSt.met at em
                      rw [af] at em
                      have em : (if lf = 0 then none else some { D with after := some (lf - 1) }) = some D' := em
                      rw [if_neg lf0] at em
                      exact (Option.some.inj em).symm
                    refine ⟨_, rfl, _, _, rfl, rfl, _, rfl, ite2 (fun _ => ?_) (fun c => absurd (decide_eq_true (by omega)) c)⟩
                    exact ⟨_, rfl, _, _, rfl, rfl, lf - 1, ⟨.inr ⟨by rw [eD], by omega, by omega, by rw [eD]; exact eT'⟩, sc.2⟩, rfl, rfl⟩
                rintro σ H' ⟨lf', sc', rfl, rfl⟩
                refine ⟨_, rfl, _, _, rfl, rfl, rfl, _, rfl, ite_int (fun z => absurd z (by omega)) (fun _ => ?_)⟩
                have hba4 := f4 ba _ q2 hba
                have q2' : ba ∉ p'.all x := fun m => by
                  rcases n4 ba m with z | z
                  · exact q2 z
                  · rw [hba] at z; cases z
                refine ⟨_, rfl, .inl ⟨rfl, _, SqL.of li4.l.hN⟩, _, rfl, _, rfl, (by show 2 ≤ sizeLine; decide), fun t0 nt0 => ?_⟩
                obtain ⟨k1, k2, k3⟩ := li4.new nt0
                have tat0 : ta ≠ t0 := fun e => by rw [← e, tA4.at_] at nt0; cases nt0
                have li13 := li4.same (same_new (o := .lst [V.int at_, .ref ba]) nt0)
                have tA13 := tA4.same (same_new (o := .lst [V.int at_, .ref ba]) nt0)
                have hba13 := same_new (o := .lst [V.int at_, .ref ba]) nt0 _ _ hba4
                have ht13 : upd H' t0 (.lst [V.int at_, .ref ba]) t0 = some (.lst [V.int at_, .ref ba]) := upd_same
                generalize upd H' t0 (.lst [V.int at_, .ref ba]) = H13 at li13 tA13 hba13 ht13
                have mB : Bl ∈ g.all Bl N := mem_lall.mpr (.inl rfl)
                have mN : N ∈ g.all Bl N := mem_lall.mpr (.inr (.inl rfl))
                have ne : ∀ {c : Addr}, c ∉ g.all Bl N → c ≠ Bl ∧ c ≠ N := fun h => ⟨fun e => h (e ▸ mB), fun e => h (e ▸ mN)⟩
                refine ⟨N, _, _, rfl, rfl, li13.l.hN, by rw [el]; exact small_line (by omega), ?_⟩
                have l14 := li13.law (li13.nl _ mN) (li13.dj _ mN) (li13.l.putN ht13 hba13 (ne k3).1 (ne k3).2 (ne q3).1 (ne q3).2) fun c hc => by
                  rcases lall_putN hc with m | m | m
                  · exact ⟨li13.nl _ m, li13.dj _ m⟩
                  · rw [m]; exact ⟨k1, k2⟩
                  · rw [m]; exact ⟨q1, q2'⟩
                rw [← eC]
                refine ⟨{ D' with wt := D'.wt ++ [(at_, bb)] }, p', { g with pr := g.pr ++ [(t0, at_, ba, bb)] }, N, lf', ta, t, _, _, _, _, _, _, _, _, rfl, ⟨l14.B0, l14.bx, l14.U, l14.d, l14.nd, l14.l.of eS (by show D'.wt ++ _ = D.wt ++ _; rw [eW]), l14.nl, l14.dj⟩, ?_, eS ▸ ln, ?_, sc', ⟨(upd_ne (ne tA13.l).2).trans tA13.at_, tA13.n0, tA13.d, fun m => ?_⟩⟩
                · refine ⟨ok'.lo, ok'.hi, ok'.st, fun w hw => ?_, ok'.torn, ?_, ok'.tl⟩
                  · rcases List.mem_append.mp hw with m | m
                    · exact ok'.wt w m
                    · rw [List.mem_singleton.mp m]
                      exact ⟨⟨a0, by show at_ < (D'.st.length : Int); rw [eS, ln]; exact a1⟩, hblk⟩
                  · show (D'.wt ++ _).length ≤ 3000
                    rw [List.length_append, eW]
                    show D.wt.length + 1 ≤ 3000
                    omega
                · show (D'.wt ++ _).length ≤ m + 1
                  rw [List.length_append, eW]
                  show D.wt.length + 1 ≤ m + 1
                  omega
                · rcases lall_putN m with z | z | z
                  · exact tA13.l z
                  · exact tat0 z
                  · exact tba z
              · have tA4 := tA.disk li f4 n4
                have li4 := li.disk d4 f4 n4
                obtain ⟨e0, eT⟩ : lf = 0 ∧ D.torn = t := by
                  rcases sc.1 with ⟨af, _⟩ | ⟨af, _, _, eT⟩
                  · unfold DSt.met at em
                    rw [af] at em
                    cases em
                  · unfold DSt.met at em
                    rw [af] at em
                    by_cases z : lf = 0
                    · exact ⟨z, eT⟩
                    · have em : (if lf = 0 then none else some { D with after := some (lf - 1) }) = (none : Option DSt) := em
                      rw [if_neg z] at em
                      cases em
                rw [eT] at li4
                have li4 := li4.same (same_new (o := .tup [V.str "refused", .str "cut"]) ntt)
                have tA4 := tA4.same (same_new (o := .tup [V.str "refused", .str "cut"]) ntt)
                have htt : upd G4 tt (.tup [V.str "refused", .str "cut"]) tt = some (.tup [V.str "refused", .str "cut"]) := upd_same
                generalize upd G4 tt (.tup [V.str "refused", .str "cut"]) = G5 at li4 tA4 htt
                refine ⟨_, rfl, rfl, _, rfl, ite_int (fun _ => ?_) (fun z => absurd e0 z)⟩
                refine ⟨_, rfl, (by show 2 ≤ sizeLine; decide), fun u1 nu1 => told_ne (by decide +kernel) (same_new nu1 _ _ htt) upd_same ⟨_, rfl, iteF ?_⟩⟩
                have li5 := li4.same (same_new (o := .tup [V.str "refused", .str "cut"]) nu1)
                have tA5 := tA4.same (same_new (o := .tup [V.str "refused", .str "cut"]) nu1)
                generalize upd G5 u1 (.tup [V.str "refused", .str "cut"]) = G6 at li5 tA5
                refine ⟨_, rfl, ta, _, rfl, .inl (SqL.of tA5.at_), _, rfl, N, _, rfl, .inl (SqL.of li5.l.hN), _, _, rfl, ?_⟩
                rw [el, List.length_map]
                obtain ⟨mm, emm, emin⟩ : ∃ mm : Nat, (if (D.wt.length : Int) < (t.length : Int) then (D.wt.length : Int) else (t.length : Int)) = (mm : Int) ∧ mm = min t.length D.wt.length := by
                  refine ⟨min t.length D.wt.length, ?_, rfl⟩
                  split <;> omega
                rw [emm]
                have mmb : mm ≤ 3000 := by rw [emin]; omega
                refine ⟨_, rfl, by omega, by omega, for_range (n := ((mm : Nat) : Int).toNat) (fun j σ H' => ∃ (br : List (Addr × List Int)) (v4 v16 : Option V), σ = [some (.ref a), some (.ref b), some (.int (n : Int)), some (.ref x), v4, some (.ref Bl), some (.ref N), some (.int lf), some (.ref ta), some (.int D.cuts), some (.int (0 + (m : Int))), some (.int kd), v12, some (.int at_), some (.ref ba), some (.ref tt), v16, v17] ∧
                    LI H0 H' Cd b x Bl N (D.cutD t) { D with st := cutSt t D.wt D.st j } p' { g with br := br } ∧ TA H0 H' x Bl N p' { g with br := br } ta t)
                  ⟨g.br, _, _, rfl, li5, tA5⟩ ?_ ?_⟩
                · rintro j σ H12 hj ⟨br, v4, v16, rfl, l9, t9⟩
                  rw [Int.toNat_natCast] at hj
                  have hjw : j < g.pr.length := by rw [← List.length_map (f := fun q => V.ref q.1), el]; omega
                  have hjt : j < t.length := by omega
                  have hq := List.getElem?_eq_getElem hjw
                  generalize g.pr[j] = q at hq
                  have hw : D.wt[j]? = some (q.2.1, q.2.2.2) := by rw [← li.l.wt, List.getElem?_map, hq]; rfl
                  obtain ⟨wk, wb⟩ := ok.wt _ (List.mem_of_getElem? hw)
                  obtain ⟨ht, hb, n1, n2, n3, n4⟩ := l9.l.pr q (List.mem_of_getElem? hq)
                  obtain ⟨cb, cl2⟩ := cut_blk (t := t) ok.st ok.wt j
                  have brl : br.length = D.st.length := by
                    have := congrArg List.length l9.l.st
                    rw [List.length_map] at this
                    exact this.trans cl2
                  obtain ⟨k, ek⟩ : ∃ k : Nat, q.2.1 = (k : Int) := ⟨q.2.1.toNat, by have := wk.1; show q.2.1 = _; simp only at this; omega⟩
                  have hkl : k < br.length := by have := wk.2; simp only at this; omega
                  have hg := List.getElem?_eq_getElem hkl
                  generalize br[k] = q0 at hg
                  obtain ⟨r0', b0⟩ := q0
                  have hr0 := (l9.l.br _ (List.mem_of_getElem? hg)).1
                  have e0 : (cutSt t D.wt D.st j).getD k [] = b0 := by
                    have e : br.map (·.2) = cutSt t D.wt D.st j := l9.l.st
                    rw [← e, List.getD_eq_getElem?_getD, List.getElem?_map, hg]
                    rfl
                  have hb0 : Blk b0 := by
                    rw [← e0, List.getD_eq_getElem?_getD, List.getElem?_eq_getElem (by rw [cl2]; omega)]
                    exact cb _ (List.getElem_mem _)
                  have tg : t.getD j 0 = ((keptOf t j : Nat) : Int) ∧ keptOf t j ≤ 32 := by
                    have := List.all_eq_true.mp sc.2.1 (t.getD j 0) (by
                      rw [List.getD_eq_getElem?_getD, List.getElem?_eq_getElem hjt]
                      exact List.getElem_mem hjt)
                    rw [Bool.and_eq_true] at this
                    have h1 := of_decide_eq_true this.1
                    have h2 := of_decide_eq_true this.2
                    unfold keptOf
                    omega
                  have at_t : atI (t.map V.int) ((j : Nat) : Int) = some (.int ((keptOf t j : Nat) : Int)) := by
                    rw [← tg.1]
                    exact atI_get hjt
                  have at_p : atI (g.pr.map fun q => V.ref q.1) ((j : Nat) : Int) = some (.ref q.1) := atI_nat (j := j) (by rw [List.getElem?_map, hq]; rfl)
                  rw [Int.zero_add (j : Int)]
                  refine ⟨_, rfl, _, rfl, N, _, _, _, rfl, rfl, SqL.of l9.l.hN, at_p, q.1, _, _, _, rfl, rfl, SqL.of ht, rfl, ?_⟩
                  rw [ek]
                  refine ⟨_, rfl, _, rfl, N, _, _, _, rfl, rfl, SqL.of l9.l.hN, at_p, q.1, _, _, _, rfl, rfl, SqL.of ht, rfl, _, rfl, _, rfl, ta, _, _, _, rfl, rfl, SqL.of t9.at_, at_t, _, rfl, q.2.2.1, _, rfl, SqL.of hb, fun p1 np1 => ?_⟩
                  rw [cutV_int, cutA_head _ _ (by rw [wb.1]; exact tg.2)]
                  have X1 := same_new (o := .lst ((q.2.2.2.take (keptOf t j)).map V.int)) np1
                  have h1p : upd H12 p1 (.lst ((q.2.2.2.take (keptOf t j)).map V.int)) p1 = some (.lst ((q.2.2.2.take (keptOf t j)).map V.int)) := upd_same
                  generalize upd H12 p1 (.lst ((q.2.2.2.take (keptOf t j)).map V.int)) = H13 at X1 h1p
                  have l13 := l9.same X1
                  refine ⟨_, rfl, _, rfl, Bl, _, _, _, rfl, rfl, SqL.of l13.l.hB, atI_nat (j := k) (by rw [List.getElem?_map, hg]; rfl), _, rfl, _, rfl, ta, _, _, _, rfl, rfl, SqL.of (X1 _ _ t9.at_), at_t, _, rfl, r0', _, rfl, SqL.of (X1 _ _ hr0), fun p2 np2 => ?_⟩
                  rw [cutV_int, cutA_tail _ _ (by rw [hb0.1]; exact tg.2)]
                  refine ⟨p1, p2, _, _, rfl, rfl, same_new np2 _ _ h1p, upd_same, ?_, fun p3 np3 => ?_⟩
                  · rw [List.length_map, List.length_map, List.length_take, List.length_drop, wb.1, hb0.1]
                    exact Nat.le_trans (m := 64) (by have := tg.2; omega) (by decide)
                  rw [← List.map_append]
                  have X3 := (X1.trans (same_new (o := .lst ((b0.drop (keptOf t j)).map V.int)) np2)).trans (same_new (o := .lst ((q.2.2.2.take (keptOf t j) ++ b0.drop (keptOf t j)).map V.int)) np3)
                  have h3p : upd (upd H13 p2 (.lst ((b0.drop (keptOf t j)).map V.int))) p3 (.lst ((q.2.2.2.take (keptOf t j) ++ b0.drop (keptOf t j)).map V.int)) p3 = some (.lst ((q.2.2.2.take (keptOf t j) ++ b0.drop (keptOf t j)).map V.int)) := upd_same
                  have n3' : H12 p3 = none := same_none (X1.trans (same_new np2)) np3
                  generalize upd (upd H13 p2 (.lst ((b0.drop (keptOf t j)).map V.int))) p3 (.lst ((q.2.2.2.take (keptOf t j) ++ b0.drop (keptOf t j)).map V.int)) = H14 at X3 h3p
                  obtain ⟨s1, s2, s3⟩ := l9.new n3'
                  have tap : ta ≠ p3 := fun e => by rw [← e, t9.at_] at n3'; cases n3'
                  have l14 := l9.same X3
                  have t14 := t9.same X3
                  have mB : Bl ∈ LPl.all { g with br := br } Bl N := mem_lall.mpr (.inl rfl)
                  have mN : N ∈ LPl.all { g with br := br } Bl N := mem_lall.mpr (.inr (.inl rfl))
                  have taB : ta ≠ Bl := fun e => t9.l (e ▸ mB)
                  refine ⟨_, rfl, _, rfl, Bl, _, _, k, rfl, rfl, l14.l.hB, ixN_at (by rw [List.length_map]; exact hkl), br.set k (p3, q.2.2.2.take (keptOf t j) ++ b0.drop (keptOf t j)), _, _, rfl, ?_, ⟨(upd_ne taB).trans t14.at_, t14.n0, t14.d, fun m => ?_⟩⟩
                  · have es : cutSt t D.wt D.st (j + 1) = (cutSt t D.wt D.st j).set k (q.2.2.2.take (keptOf t j) ++ b0.drop (keptOf t j)) := by
                      rw [cutSt_succ]
                      unfold cutStep
                      rw [hw]
                      show (cutSt t D.wt D.st j).set q.2.1.toNat (q.2.2.2.take (keptOf t j) ++ ((cutSt t D.wt D.st j).getD q.2.1.toNat []).drop (keptOf t j)) = _
                      rw [ek, Int.toNat_natCast, e0]
                    rw [es]
                    refine l14.law (l14.nl _ mB) (l14.dj _ mB) (l14.l.setB (k := k) h3p (fun e => s3 (e ▸ mB)) (fun e => s3 (e ▸ mN))) fun c hc => ?_
                    rcases lall_setB (g := { g with br := br }) hc with m | m
                    · exact ⟨l14.nl _ m, l14.dj _ m⟩
                    · rw [m]
                      exact ⟨s1, s2⟩
                  · rcases lall_setB (g := { g with br := br }) m with z | z
                    · exact t9.l z
                    · exact tap z
                · rintro σ H12 ⟨br, v4, v16, rfl, l9, t9⟩
                  rw [Int.toNat_natCast] at l9
                  refine ⟨(by show 0 ≤ sizeLine; decide), fun N' nN' => ⟨_, _, rfl, rfl, _, rfl, _, _, rfl, rfl, ?_⟩⟩
                  obtain ⟨s1, s2, s3⟩ := l9.new nN'
                  have taN : ta ≠ N' := fun e => by rw [← e, t9.at_] at nN'; cases nN'
                  have l10 := l9.same (same_new (o := .lst ([] : List V)) nN')
                  have t10 := t9.same (same_new (o := .lst ([] : List V)) nN')
                  have est : cutSt t D.wt D.st mm = cutSt t D.wt D.st D.wt.length := by rw [emin]; exact cut_stop ok.st ok.wt
                  rw [est] at l10
                  refine ⟨D.cutD t, p', { g with br := br, pr := [] }, N', -1, ta, t, _, _, _, _, _, _, _, _, rfl, ⟨l10.B0, l10.bx, l10.U, l10.d, l10.nd, (l10.l.newN upd_same s3).of rfl rfl, fun c hc => ?_, fun c hc => ?_⟩, ok.cut t, (cut_blk (t := t) ok.st ok.wt D.wt.length).2.trans ln, Nat.zero_le _, ⟨.inl ⟨rfl, rfl⟩, sc.2.1, sc.2.2⟩, ⟨t10.at_, t10.n0, t10.d, fun m => ?_⟩⟩
                  · rcases lall_newN (g := { g with br := br }) hc with m | m
                    · exact l9.nl c m
                    · rw [m]; exact s1
                  · rcases lall_newN (g := { g with br := br }) hc with m | m
                    · exact l9.dj c m
                    · rw [m]; exact s2
                  · rcases lall_newN (g := { g with br := br }) m with z | z
                    · exact t9.l z
                    · exact taN z
        · refine ⟨_, rfl, rfl, _, rfl, ite_int (fun _ => ?_) (fun _ => ?_)⟩
          · -- what is refused
            refine ⟨_, rfl, _, rfl, (by show 1 ≤ sizeLine; decide), fun p1 np1 => ⟨p1, 32, _, rfl, rfl, upd_same, by decide, by decide, by decide, fun a1 na1 => ?_⟩⟩
            rw [show ((32 : Int)).toNat = 32 from rfl, rep_flat]
            have S1 := (same_new (o := .lst [V.int 0]) np1).trans (same_new (o := .lst ((List.replicate 32 (0 : Int)).map V.int)) na1)
            have n1 := li.d.new (same_none (same_new np1) na1)
            have li := li.same S1
            have tA := tA.same S1
            have h1 : upd (upd H7 p1 (.lst [V.int 0])) a1 (.lst ((List.replicate 32 (0 : Int)).map V.int)) a1 = some (.lst ((List.replicate 32 (0 : Int)).map V.int)) := upd_same
            generalize upd (upd H7 p1 (.lst [V.int 0])) a1 (.lst ((List.replicate 32 (0 : Int)).map V.int)) = G1 at li tA h1
            refine ⟨x, (n : Int), .ref a1, D, p, rfl, li.d, .inr ⟨by omega, x, D, p, (n : Int), a1, _, rfl, li.d, ok, h1, n1, by decide, few, fun a => absurd a.2 (by rw [ln]; omega), fun a => absurd a.2 (by rw [ln]; omega), fun _ => raises_toldD fun t1 G2 S2 ht1 => ?_, fun a => absurd a.2 (by rw [ln]; omega)⟩⟩
            refine ⟨(by show 2 ≤ sizeLine; decide), fun u1 nu1 => told_ne (by decide +kernel) (same_new nu1 _ _ ht1) upd_same ⟨_, rfl, iteF ?_⟩⟩
            have S3 := S2.trans (same_new (o := .tup [V.str "refused", .str "at"]) nu1)
            have li := li.same S3
            have tA := tA.same S3
            generalize upd G2 u1 (.tup [V.str "refused", .str "at"]) = G3 at li tA
            refine ⟨_, rfl, (by show 1 ≤ sizeLine; decide), fun p2 np2 => ⟨p2, 31, _, rfl, rfl, upd_same, by decide, by decide, by decide, fun a2 na2 => ?_⟩⟩
            rw [show ((31 : Int)).toNat = 31 from rfl, rep_flat]
            have S4 := (same_new (o := .lst [V.int 0]) np2).trans (same_new (o := .lst ((List.replicate 31 (0 : Int)).map V.int)) na2)
            have n2 := li.d.new (same_none (same_new np2) na2)
            have li := li.same S4
            have tA := tA.same S4
            have h2 : upd (upd G3 p2 (.lst [V.int 0])) a2 (.lst ((List.replicate 31 (0 : Int)).map V.int)) a2 = some (.lst ((List.replicate 31 (0 : Int)).map V.int)) := upd_same
            generalize upd (upd G3 p2 (.lst [V.int 0])) a2 (.lst ((List.replicate 31 (0 : Int)).map V.int)) = G4 at li tA h2
            refine ⟨x, 0, .ref a2, D, p, rfl, li.d, .inr ⟨by decide, x, D, p, 0, a2, _, rfl, li.d, ok, h2, n2, by decide, few, fun _ o => absurd o (by decide +kernel), fun _ o => absurd o (by decide +kernel), fun na => absurd ⟨by decide, by rw [ln]; omega⟩ na, fun _ _ => raises_toldD fun t2 G5 S5 ht2 => ?_⟩⟩
            refine ⟨(by show 2 ≤ sizeLine; decide), fun u2 nu2 => told_ne (by decide +kernel) (same_new nu2 _ _ ht2) upd_same ⟨_, rfl, iteF ?_⟩⟩
            have S6 := S5.trans (same_new (o := .tup [V.str "refused", .str "block"]) nu2)
            exact ⟨D, p, g, N, lf, ta, t, _, _, _, _, _, _, _, _, rfl, li.same S6, ok, ln, by omega, sc, tA.same S6⟩
          · -- a write or a flush
            refine ⟨_, _, rfl, rfl, ?_⟩
            refine ⟨fun σ H' => ∃ at_ : Int, (at_ = -1 ∨ (0 ≤ at_ ∧ at_ < (n : Int))) ∧ σ = [some (.ref a), some (.ref b), some (.int (n : Int)), some (.ref x), v4, some (.ref Bl), some (.ref N), some (.int lf), some (.ref ta), some (.int D.cuts), some (.int (0 + (m : Int))), some (.int kd), v12, some (.int at_), v14, v15, v16, v17] ∧ LI H0 H' Cd b x Bl N D D p g ∧ TA H0 H' x Bl N p g ta t, ?_, ?_⟩
            · refine ⟨_, rfl, _, _, rfl, rfl, _, rfl, ite2 (fun _ => ?_) (fun _ => ⟨-1, .inl rfl, rfl, li, tA⟩)⟩
              exact ⟨_, rfl, _, rfl, b, (n : Int), rfl, li.bx, by omega, fun r G1 r0 r1 B1 U1 => ⟨r, .inr ⟨r0, r1⟩, rfl, li.but U1 B1, tA.but li U1⟩⟩
            clear li tA
            rintro σ G1 ⟨at_, hat, rfl, li, tA⟩
            refine ⟨32, rfl, by decide, by decide, fun ba nba => ?_⟩
            obtain ⟨q1, q2, q3⟩ := li.new nba
            have bab : ba ≠ b := fun e => by
              obtain ⟨l', ds', k', hb', _⟩ := li.B0
              rw [← e, q1] at hb'
              cases hb'
            have tba : ta ≠ ba := fun e => by rw [← e, tA.at_] at nba; cases nba
            refine lc_range (n := 32) (fun j H' => ∃ bb : List Int, H' ba = some (.lst (bb.map V.int)) ∧ bb.length = j ∧ (∀ v ∈ bb, 0 ≤ v ∧ v ≤ 255) ∧ LI H0 H' Cd b x Bl N D D p g ∧ TA H0 H' x Bl N p g ta t) ⟨[], upd_same, rfl, (fun v h => nomatch h), li.same (same_new nba), tA.same (same_new nba)⟩ ?_ ?_
            · rintro j G2 hj ⟨bb, hba, bl, bv, l2, t2⟩
              refine ⟨rfl, _, rfl, b, 255, rfl, l2.bx, by decide, fun v G3 w0 w1 B3 U3 => ⟨_, _, rfl, rfl, ?_⟩⟩
              have hba3 := U3.k ba _ bab hba
              have l3 := l2.but U3 B3
              have t3 := t2.but l2 U3
              refine ⟨_, hba3, (by rw [List.length_map]; exact small_line (by omega)), bb ++ [1 + v], upd_same.trans (congrArg some lst_more), by rw [List.length_append, bl]; rfl, fun y hy => ?_, l3.put q1 q2 q3, ⟨(upd_ne tba).trans t3.at_, t3.n0, t3.d, t3.l⟩⟩
              rcases List.mem_append.mp hy with z | z
              · exact bv y z
              · rw [List.mem_singleton.mp z]
                omega
            clear li tA
            rintro G2 ⟨bb, hba, bl, bv, li, tA⟩
            have hblk : Blk bb := ⟨bl, bv⟩
            refine ⟨_, rfl, _, rfl, _, rfl, ba, _, rfl, .inl (SqL.of hba), fun lb nlb => ?_⟩
            obtain ⟨h1, h2, h3⟩ := li.new nlb
            have hba := same_new (o := .lst (bb.map V.int)) nlb _ _ hba
            have li := li.same (same_new (o := .lst (bb.map V.int)) nlb)
            have tA := tA.same (same_new (o := .lst (bb.map V.int)) nlb)
            have hlb : upd G2 lb (.lst (bb.map V.int)) lb = some (.lst (bb.map V.int)) := upd_same
            generalize upd G2 lb (.lst (bb.map V.int)) = G3 at li tA hba hlb
            refine ⟨x, at_, .ref lb, D, p, rfl, li.d, ?_⟩
            rcases hat with rfl | ⟨a0, a1⟩
            · refine .inl ⟨rfl, x, D, p, rfl, li.d, ok, fun D' em p' G4 d4 f4 n4 => ?_, fun em p' G4 d4 f4 n4 => .inr ⟨rfl, rfl, fun tt ntt => ?_⟩⟩
              · obtain ⟨ok', eS, eW, eC, eT⟩ := ok.met em
                have tA4 := tA.disk li f4 n4
                have li4 := li.disk d4 f4 n4
                have lf0 : lf ≠ 0 := by
                  rcases sc.1 with ⟨_, e⟩ | ⟨af, _⟩
                  · omega
                  · intro z
                    unfold DSt.met at em
                    rw [af] at em
                    have em : (if lf = 0 then none else some { D with after := some (lf - 1) }) = some D' := em
                    rw [if_pos z] at em
                    cases em
                refine ⟨_, rfl, rfl, _, rfl, ite_int (fun z => absurd z lf0) (fun _ => ?_)⟩
                refine ⟨_, rfl, rfl, _, rfl, iteF ?_⟩
                refine ⟨fun σ H' => ∃ lf' : Int, Sch D' lf' t ∧ σ = [some (.ref a), some (.ref b), some (.int (n : Int)), some (.ref x), v4, some (.ref Bl), some (.ref N), some (.int lf'), some (.ref ta), some (.int D.cuts), some (.int (0 + (m : Int))), some (.int kd), v12, some (.int (-1)), some (.ref ba), some .non, v16, v17] ∧ H' = G4, ?_, ?_⟩
                · rcases sc.1 with ⟨af, e⟩ | ⟨af, l0, l1, eT'⟩
                  · have eD : D' = D := by
                      unfold DSt.met at em
                      rw [af] at em
                      exact (Option.some.inj em).symm
                    refine ⟨_, rfl, _, _, rfl, rfl, _, rfl, ite2 (fun c => absurd (of_decide_eq_true c) (by omega)) (fun _ => ⟨lf, ⟨.inl ⟨by rw [eD]; exact af, e⟩, sc.2⟩, rfl, rfl⟩)⟩
                  · have eD : D' = { D with after := some (lf - 1) } := by
                      unfold DSt.met at em
                      rw [af] at em
                      have em : (if lf = 0 then none else some { D with after := some (lf - 1) }) = some D' := em
                      rw [if_neg lf0] at em
                      exact (Option.some.inj em).symm
                    refine ⟨_, rfl, _, _, rfl, rfl, _, rfl, ite2 (fun _ => ?_) (fun c => absurd (decide_eq_true (by omega)) c)⟩
                    exact ⟨_, rfl, _, _, rfl, rfl, lf - 1, ⟨.inr ⟨by rw [eD], by omega, by omega, by rw [eD]; exact eT'⟩, sc.2⟩, rfl, rfl⟩
                rintro σ H' ⟨lf', sc', rfl, rfl⟩
                refine ⟨_, rfl, _, _, rfl, rfl, rfl, _, rfl, ite_int (fun _ => ?_) (fun z => absurd rfl z)⟩
                refine ⟨_, rfl, N, rfl, ⟨_, SqL.of li4.l.hN⟩, ?_⟩
                refine for_list (K := K) (xs := g.pr.map fun q => V.ref q.1) (fun j σ G5 => ∃ (br : List (Addr × List Int)) (v17 : Option V), σ = [some (.ref a), some (.ref b), some (.int (n : Int)), some (.ref x), v4, some (.ref Bl), some (.ref N), some (.int lf'), some (.ref ta), some (.int D.cuts), some (.int (0 + (m : Int))), some (.int kd), v12, some (.int (-1)), some (.ref ba), some .non, v16, v17] ∧
                    LI H0 G5 Cd b x Bl N D'.flushD { D with st := flushSt (D.wt.take j) D.st } p' { g with br := br } ∧ TA H0 G5 x Bl N p' { g with br := br } ta t)
                  ⟨g.br, _, rfl, li4, tA4⟩ (fun j σ G5 _ ⟨br, _, _, l', _⟩ => SqL.of (show G5 N = some (.lst (g.pr.map fun q => V.ref q.1)) from l'.l.hN)) ?_ ?_
                · rintro j y σ H9 hy ⟨br, v17, rfl, l9, t9⟩
                  rw [List.getElem?_map] at hy
                  obtain ⟨q, hq, rfl⟩ := Option.map_eq_some_iff.mp hy
                  have hw : D.wt[j]? = some (q.2.1, q.2.2.2) := by rw [← li.l.wt, List.getElem?_map, hq]; rfl
                  obtain ⟨wk, wb⟩ := ok.wt _ (List.mem_of_getElem? hw)
                  obtain ⟨ht, hb, n1, n2, n3, n4⟩ := l9.l.pr q (List.mem_of_getElem? hq)
                  obtain ⟨cb, cl2⟩ := flush_blk (wt := D.wt.take j) ok.st rfl fun w hw => ok.wt w (List.mem_of_mem_take hw)
                  have brl : br.length = D.st.length := by
                    have := congrArg List.length l9.l.st
                    rw [List.length_map] at this
                    exact this.trans cl2
                  obtain ⟨k, ek⟩ : ∃ k : Nat, q.2.1 = (k : Int) := ⟨q.2.1.toNat, by have := wk.1; show q.2.1 = _; simp only at this; omega⟩
                  have hkl : k < br.length := by have := wk.2; simp only at this; omega
                  refine ⟨_, rfl, q.1, _, _, _, rfl, rfl, SqL.of ht, rfl, _, rfl, _, rfl, q.1, _, _, _, rfl, rfl, SqL.of ht, rfl, ?_⟩
                  rw [ek]
                  have mB : Bl ∈ LPl.all { g with br := br } Bl N := mem_lall.mpr (.inl rfl)
                  have mq : q.2.2.1 ∈ LPl.all { g with br := br } Bl N := mem_lall.mpr (.inr (.inr (.inr (.inr ⟨q, List.mem_of_getElem? hq, rfl⟩))))
                  refine ⟨Bl, _, _, k, rfl, rfl, l9.l.hB, ixN_at (by rw [List.length_map]; exact hkl), br.set k (q.2.2.1, q.2.2.2), _, rfl, ?_, ⟨(upd_ne (show ta ≠ Bl from fun e => t9.l (e ▸ mB))).trans t9.at_, t9.n0, t9.d, fun m => ?_⟩⟩
                  · have es : flushSt (D.wt.take (j + 1)) D.st = (flushSt (D.wt.take j) D.st).set k q.2.2.2 := by
                      rw [takeS hw]
                      unfold flushSt
                      rw [List.foldl_append]
                      show List.set (List.foldl _ _ _) q.2.1.toNat q.2.2.2 = _
                      rw [ek, Int.toNat_natCast]
                    rw [es]
                    refine l9.law (l9.nl _ mB) (l9.dj _ mB) (l9.l.setB (k := k) hb n3 n4) fun c hc => ?_
                    rcases lall_setB (g := { g with br := br }) hc with m | m
                    · exact ⟨l9.nl _ m, l9.dj _ m⟩
                    · rw [m]
                      exact ⟨l9.nl _ mq, l9.dj _ mq⟩
                  · rcases lall_setB (g := { g with br := br }) m with z | z
                    · exact t9.l z
                    · exact t9.l (z ▸ mq)
                · rintro σ H9 ⟨br, v17, rfl, l9, t9⟩
                  rw [el, List.take_length] at l9
                  refine ⟨(by show 0 ≤ sizeLine; decide), fun N' nN' => ?_⟩
                  obtain ⟨s1, s2, s3⟩ := l9.new nN'
                  have taN : ta ≠ N' := fun e => by rw [← e, t9.at_] at nN'; cases nN'
                  have l10 := l9.same (same_new (o := .lst ([] : List V)) nN')
                  have t10 := t9.same (same_new (o := .lst ([] : List V)) nN')
                  have eF : D'.flushD.st = flushSt D.wt D.st := by show flushSt D'.wt D'.st = _; rw [eS, eW]
                  rw [← eC]
                  refine ⟨D'.flushD, p', { g with br := br, pr := [] }, N', lf', ta, t, _, _, _, _, _, _, _, _, rfl, ⟨l10.B0, l10.bx, l10.U, l10.d, l10.nd, (l10.l.newN upd_same s3).of eF rfl, fun c hc => ?_, fun c hc => ?_⟩, ok'.flush, by rw [eF]; exact (flush_blk ok.st rfl ok.wt).2.trans ln, Nat.zero_le _, sc', ⟨t10.at_, t10.n0, t10.d, fun m => ?_⟩⟩
                  · rcases lall_newN (g := { g with br := br }) hc with m | m
                    · exact l9.nl c m
                    · rw [m]; exact s1
                  · rcases lall_newN (g := { g with br := br }) hc with m | m
                    · exact l9.dj c m
                    · rw [m]; exact s2
                  · rcases lall_newN (g := { g with br := br }) m with z | z
                    · exact t9.l z
                    · exact taN z
              · have tA4 := tA.disk li f4 n4
                have li4 := li.disk d4 f4 n4
                obtain ⟨e0, eT⟩ : lf = 0 ∧ D.torn = t := by
                  rcases sc.1 with ⟨af, _⟩ | ⟨af, _, _, eT⟩
                  · unfold DSt.met at em
                    rw [af] at em
                    cases em
                  · unfold DSt.met at em
                    rw [af] at em
                    by_cases z : lf = 0
                    · exact ⟨z, eT⟩
                    · have em : (if lf = 0 then none else some { D with after := some (lf - 1) }) = (none : Option DSt) := em
                      rw [if_neg z] at em
                      cases em
                rw [eT] at li4
                have li4 := li4.same (same_new (o := .tup [V.str "refused", .str "cut"]) ntt)
                have tA4 := tA4.same (same_new (o := .tup [V.str "refused", .str "cut"]) ntt)
                have htt : upd G4 tt (.tup [V.str "refused", .str "cut"]) tt = some (.tup [V.str "refused", .str "cut"]) := upd_same
                generalize upd G4 tt (.tup [V.str "refused", .str "cut"]) = G5 at li4 tA4 htt
                refine ⟨_, rfl, rfl, _, rfl, ite_int (fun _ => ?_) (fun z => absurd e0 z)⟩
                refine ⟨_, rfl, (by show 2 ≤ sizeLine; decide), fun u1 nu1 => told_ne (by decide +kernel) (same_new nu1 _ _ htt) upd_same ⟨_, rfl, iteF ?_⟩⟩
                have li5 := li4.same (same_new (o := .tup [V.str "refused", .str "cut"]) nu1)
                have tA5 := tA4.same (same_new (o := .tup [V.str "refused", .str "cut"]) nu1)
                generalize upd G5 u1 (.tup [V.str "refused", .str "cut"]) = G6 at li5 tA5
                refine ⟨_, rfl, ta, _, rfl, .inl (SqL.of tA5.at_), _, rfl, N, _, rfl, .inl (SqL.of li5.l.hN), _, _, rfl, ?_⟩
                rw [el, List.length_map]
                obtain ⟨mm, emm, emin⟩ : ∃ mm : Nat, (if (D.wt.length : Int) < (t.length : Int) then (D.wt.length : Int) else (t.length : Int)) = (mm : Int) ∧ mm = min t.length D.wt.length := by
                  refine ⟨min t.length D.wt.length, ?_, rfl⟩
                  split <;> omega
                rw [emm]
                have mmb : mm ≤ 3000 := by rw [emin]; omega
                refine ⟨_, rfl, by omega, by omega, for_range (n := ((mm : Nat) : Int).toNat) (fun j σ H' => ∃ (br : List (Addr × List Int)) (v4 v16 : Option V), σ = [some (.ref a), some (.ref b), some (.int (n : Int)), some (.ref x), v4, some (.ref Bl), some (.ref N), some (.int lf), some (.ref ta), some (.int D.cuts), some (.int (0 + (m : Int))), some (.int kd), v12, some (.int (-1)), some (.ref ba), some (.ref tt), v16, v17] ∧
                    LI H0 H' Cd b x Bl N (D.cutD t) { D with st := cutSt t D.wt D.st j } p' { g with br := br } ∧ TA H0 H' x Bl N p' { g with br := br } ta t)
                  ⟨g.br, _, _, rfl, li5, tA5⟩ ?_ ?_⟩
                · rintro j σ H12 hj ⟨br, v4, v16, rfl, l9, t9⟩
                  rw [Int.toNat_natCast] at hj
                  have hjw : j < g.pr.length := by rw [← List.length_map (f := fun q => V.ref q.1), el]; omega
                  have hjt : j < t.length := by omega
                  have hq := List.getElem?_eq_getElem hjw
                  generalize g.pr[j] = q at hq
                  have hw : D.wt[j]? = some (q.2.1, q.2.2.2) := by rw [← li.l.wt, List.getElem?_map, hq]; rfl
                  obtain ⟨wk, wb⟩ := ok.wt _ (List.mem_of_getElem? hw)
                  obtain ⟨ht, hb, n1, n2, n3, n4⟩ := l9.l.pr q (List.mem_of_getElem? hq)
                  obtain ⟨cb, cl2⟩ := cut_blk (t := t) ok.st ok.wt j
                  have brl : br.length = D.st.length := by
                    have := congrArg List.length l9.l.st
                    rw [List.length_map] at this
                    exact this.trans cl2
                  obtain ⟨k, ek⟩ : ∃ k : Nat, q.2.1 = (k : Int) := ⟨q.2.1.toNat, by have := wk.1; show q.2.1 = _; simp only at this; omega⟩
                  have hkl : k < br.length := by have := wk.2; simp only at this; omega
                  have hg := List.getElem?_eq_getElem hkl
                  generalize br[k] = q0 at hg
                  obtain ⟨r0', b0⟩ := q0
                  have hr0 := (l9.l.br _ (List.mem_of_getElem? hg)).1
                  have e0 : (cutSt t D.wt D.st j).getD k [] = b0 := by
                    have e : br.map (·.2) = cutSt t D.wt D.st j := l9.l.st
                    rw [← e, List.getD_eq_getElem?_getD, List.getElem?_map, hg]
                    rfl
                  have hb0 : Blk b0 := by
                    rw [← e0, List.getD_eq_getElem?_getD, List.getElem?_eq_getElem (by rw [cl2]; omega)]
                    exact cb _ (List.getElem_mem _)
                  have tg : t.getD j 0 = ((keptOf t j : Nat) : Int) ∧ keptOf t j ≤ 32 := by
                    have := List.all_eq_true.mp sc.2.1 (t.getD j 0) (by
                      rw [List.getD_eq_getElem?_getD, List.getElem?_eq_getElem hjt]
                      exact List.getElem_mem hjt)
                    rw [Bool.and_eq_true] at this
                    have h1 := of_decide_eq_true this.1
                    have h2 := of_decide_eq_true this.2
                    unfold keptOf
                    omega
                  have at_t : atI (t.map V.int) ((j : Nat) : Int) = some (.int ((keptOf t j : Nat) : Int)) := by
                    rw [← tg.1]
                    exact atI_get hjt
                  have at_p : atI (g.pr.map fun q => V.ref q.1) ((j : Nat) : Int) = some (.ref q.1) := atI_nat (j := j) (by rw [List.getElem?_map, hq]; rfl)
                  rw [Int.zero_add (j : Int)]
                  refine ⟨_, rfl, _, rfl, N, _, _, _, rfl, rfl, SqL.of l9.l.hN, at_p, q.1, _, _, _, rfl, rfl, SqL.of ht, rfl, ?_⟩
                  rw [ek]
                  refine ⟨_, rfl, _, rfl, N, _, _, _, rfl, rfl, SqL.of l9.l.hN, at_p, q.1, _, _, _, rfl, rfl, SqL.of ht, rfl, _, rfl, _, rfl, ta, _, _, _, rfl, rfl, SqL.of t9.at_, at_t, _, rfl, q.2.2.1, _, rfl, SqL.of hb, fun p1 np1 => ?_⟩
                  rw [cutV_int, cutA_head _ _ (by rw [wb.1]; exact tg.2)]
                  have X1 := same_new (o := .lst ((q.2.2.2.take (keptOf t j)).map V.int)) np1
                  have h1p : upd H12 p1 (.lst ((q.2.2.2.take (keptOf t j)).map V.int)) p1 = some (.lst ((q.2.2.2.take (keptOf t j)).map V.int)) := upd_same
                  generalize upd H12 p1 (.lst ((q.2.2.2.take (keptOf t j)).map V.int)) = H13 at X1 h1p
                  have l13 := l9.same X1
                  refine ⟨_, rfl, _, rfl, Bl, _, _, _, rfl, rfl, SqL.of l13.l.hB, atI_nat (j := k) (by rw [List.getElem?_map, hg]; rfl), _, rfl, _, rfl, ta, _, _, _, rfl, rfl, SqL.of (X1 _ _ t9.at_), at_t, _, rfl, r0', _, rfl, SqL.of (X1 _ _ hr0), fun p2 np2 => ?_⟩
                  rw [cutV_int, cutA_tail _ _ (by rw [hb0.1]; exact tg.2)]
                  refine ⟨p1, p2, _, _, rfl, rfl, same_new np2 _ _ h1p, upd_same, ?_, fun p3 np3 => ?_⟩
                  · rw [List.length_map, List.length_map, List.length_take, List.length_drop, wb.1, hb0.1]
                    exact Nat.le_trans (m := 64) (by have := tg.2; omega) (by decide)
                  rw [← List.map_append]
                  have X3 := (X1.trans (same_new (o := .lst ((b0.drop (keptOf t j)).map V.int)) np2)).trans (same_new (o := .lst ((q.2.2.2.take (keptOf t j) ++ b0.drop (keptOf t j)).map V.int)) np3)
                  have h3p : upd (upd H13 p2 (.lst ((b0.drop (keptOf t j)).map V.int))) p3 (.lst ((q.2.2.2.take (keptOf t j) ++ b0.drop (keptOf t j)).map V.int)) p3 = some (.lst ((q.2.2.2.take (keptOf t j) ++ b0.drop (keptOf t j)).map V.int)) := upd_same
                  have n3' : H12 p3 = none := same_none (X1.trans (same_new np2)) np3
                  generalize upd (upd H13 p2 (.lst ((b0.drop (keptOf t j)).map V.int))) p3 (.lst ((q.2.2.2.take (keptOf t j) ++ b0.drop (keptOf t j)).map V.int)) = H14 at X3 h3p
                  obtain ⟨s1, s2, s3⟩ := l9.new n3'
                  have tap : ta ≠ p3 := fun e => by rw [← e, t9.at_] at n3'; cases n3'
                  have l14 := l9.same X3
                  have t14 := t9.same X3
                  have mB : Bl ∈ LPl.all { g with br := br } Bl N := mem_lall.mpr (.inl rfl)
                  have mN : N ∈ LPl.all { g with br := br } Bl N := mem_lall.mpr (.inr (.inl rfl))
                  have taB : ta ≠ Bl := fun e => t9.l (e ▸ mB)
                  refine ⟨_, rfl, _, rfl, Bl, _, _, k, rfl, rfl, l14.l.hB, ixN_at (by rw [List.length_map]; exact hkl), br.set k (p3, q.2.2.2.take (keptOf t j) ++ b0.drop (keptOf t j)), _, _, rfl, ?_, ⟨(upd_ne taB).trans t14.at_, t14.n0, t14.d, fun m => ?_⟩⟩
                  · have es : cutSt t D.wt D.st (j + 1) = (cutSt t D.wt D.st j).set k (q.2.2.2.take (keptOf t j) ++ b0.drop (keptOf t j)) := by
                      rw [cutSt_succ]
                      unfold cutStep
                      rw [hw]
                      show (cutSt t D.wt D.st j).set q.2.1.toNat (q.2.2.2.take (keptOf t j) ++ ((cutSt t D.wt D.st j).getD q.2.1.toNat []).drop (keptOf t j)) = _
                      rw [ek, Int.toNat_natCast, e0]
                    rw [es]
                    refine l14.law (l14.nl _ mB) (l14.dj _ mB) (l14.l.setB (k := k) h3p (fun e => s3 (e ▸ mB)) (fun e => s3 (e ▸ mN))) fun c hc => ?_
                    rcases lall_setB (g := { g with br := br }) hc with m | m
                    · exact ⟨l14.nl _ m, l14.dj _ m⟩
                    · rw [m]
                      exact ⟨s1, s2⟩
                  · rcases lall_setB (g := { g with br := br }) m with z | z
                    · exact t9.l z
                    · exact tap z
                · rintro σ H12 ⟨br, v4, v16, rfl, l9, t9⟩
                  rw [Int.toNat_natCast] at l9
                  refine ⟨(by show 0 ≤ sizeLine; decide), fun N' nN' => ⟨_, _, rfl, rfl, _, rfl, _, _, rfl, rfl, ?_⟩⟩
                  obtain ⟨s1, s2, s3⟩ := l9.new nN'
                  have taN : ta ≠ N' := fun e => by rw [← e, t9.at_] at nN'; cases nN'
                  have l10 := l9.same (same_new (o := .lst ([] : List V)) nN')
                  have t10 := t9.same (same_new (o := .lst ([] : List V)) nN')
                  have est : cutSt t D.wt D.st mm = cutSt t D.wt D.st D.wt.length := by rw [emin]; exact cut_stop ok.st ok.wt
                  rw [est] at l10
                  refine ⟨D.cutD t, p', { g with br := br, pr := [] }, N', -1, ta, t, _, _, _, _, _, _, _, _, rfl, ⟨l10.B0, l10.bx, l10.U, l10.d, l10.nd, (l10.l.newN upd_same s3).of rfl rfl, fun c hc => ?_, fun c hc => ?_⟩, ok.cut t, (cut_blk (t := t) ok.st ok.wt D.wt.length).2.trans ln, Nat.zero_le _, ⟨.inl ⟨rfl, rfl⟩, sc.2.1, sc.2.2⟩, ⟨t10.at_, t10.n0, t10.d, fun m => ?_⟩⟩
                  · rcases lall_newN (g := { g with br := br }) hc with m | m
                    · exact l9.nl c m
                    · rw [m]; exact s1
                  · rcases lall_newN (g := { g with br := br }) hc with m | m
                    · exact l9.dj c m
                    · rw [m]; exact s2
                  · rcases lall_newN (g := { g with br := br }) m with z | z
                    · exact t9.l z
                    · exact taN z
            · refine .inr ⟨by omega, x, D, p, at_, lb, bb, rfl, li.d, ok, hlb, h2, by rw [hblk.1]; decide, few, fun _ _ D' em p' G4 d4 f4 n4 => ?_, fun _ _ em p' G4 d4 f4 n4 => .inr ⟨rfl, rfl, fun tt ntt => ?_⟩, fun na => absurd (by rw [ln]; exact ⟨a0, a1⟩) na, fun _ nob => absurd ((blk_ok hblk).symm.trans nob) (by decide)⟩
              · obtain ⟨ok', eS, eW, eC, eT⟩ := ok.met em
                have tA4 := tA.disk li f4 n4
                have li4 := li.disk d4 f4 n4
                have lf0 : lf ≠ 0 := by
                  rcases sc.1 with ⟨_, e⟩ | ⟨af, _⟩
                  · omega
                  · intro z
                    unfold DSt.met at em
                    rw [af] at em
                    have em : (if lf = 0 then none else some { D with after := some (lf - 1) }) = some D' := em
                    rw [if_pos z] at em
                    cases em
                refine ⟨_, rfl, rfl, _, rfl, ite_int (fun z => absurd z lf0) (fun _ => ?_)⟩
                refine ⟨_, rfl, rfl, _, rfl, iteF ?_⟩
                refine ⟨fun σ H' => ∃ lf' : Int, Sch D' lf' t ∧ σ = [some (.ref a), some (.ref b), some (.int (n : Int)), some (.ref x), v4, some (.ref Bl), some (.ref N), some (.int lf'), some (.ref ta), some (.int D.cuts), some (.int (0 + (m : Int))), some (.int kd), v12, some (.int at_), some (.ref ba), some .non, v16, v17] ∧ H' = G4, ?_, ?_⟩
                · rcases sc.1 with ⟨af, e⟩ | ⟨af, l0, l1, eT'⟩
                  · have eD : D' = D := by
                      unfold DSt.met at em
                      rw [af] at em
                      exact (Option.some.inj em).symm
                    refine ⟨_, rfl, _, _, rfl, rfl, _, rfl, ite2 (fun c => absurd (of_decide_eq_true c) (by omega)) (fun _ => ⟨lf, ⟨.inl ⟨by rw [eD]; exact af, e⟩, sc.2⟩, rfl, rfl⟩)⟩
                  · have eD : D' = { D with after := some (lf - 1) } := by
                      unfold DSt.met at em
                      rw [af] at em
                      have em : (if lf = 0 then none else some { D with after := some (lf - 1) }) = some D' := em
                      rw [if_neg lf0] at em
                      exact (Option.some.inj em).symm
                    refine ⟨_, rfl, _, _, rfl, rfl, _, rfl, ite2 (fun _ => ?_) (fun c => absurd (decide_eq_true (by omega)) c)⟩
                    exact ⟨_, rfl, _, _, rfl, rfl, lf - 1, ⟨.inr ⟨by rw [eD], by omega, by omega, by rw [eD]; exact eT'⟩, sc.2⟩, rfl, rfl⟩
                rintro σ H' ⟨lf', sc', rfl, rfl⟩
                refine ⟨_, rfl, _, _, rfl, rfl, rfl, _, rfl, ite_int (fun z => absurd z (by omega)) (fun _ => ?_)⟩
                have hba4 := f4 ba _ q2 hba
                have q2' : ba ∉ p'.all x := fun m => by
                  rcases n4 ba m with z | z
                  · exact q2 z
                  · rw [hba] at z; cases z
                refine ⟨_, rfl, .inl ⟨rfl, _, SqL.of li4.l.hN⟩, _, rfl, _, rfl, (by show 2 ≤ sizeLine; decide), fun t0 nt0 => ?_⟩
                obtain ⟨k1, k2, k3⟩ := li4.new nt0
                have tat0 : ta ≠ t0 := fun e => by rw [← e, tA4.at_] at nt0; cases nt0
                have li13 := li4.same (same_new (o := .lst [V.int at_, .ref ba]) nt0)
                have tA13 := tA4.same (same_new (o := .lst [V.int at_, .ref ba]) nt0)
                have hba13 := same_new (o := .lst [V.int at_, .ref ba]) nt0 _ _ hba4
                have ht13 : upd H' t0 (.lst [V.int at_, .ref ba]) t0 = some (.lst [V.int at_, .ref ba]) := upd_same
                generalize upd H' t0 (.lst [V.int at_, .ref ba]) = H13 at li13 tA13 hba13 ht13
                have mB : Bl ∈ g.all Bl N := mem_lall.mpr (.inl rfl)
                have mN : N ∈ g.all Bl N := mem_lall.mpr (.inr (.inl rfl))
                have ne : ∀ {c : Addr}, c ∉ g.all Bl N → c ≠ Bl ∧ c ≠ N := fun h => ⟨fun e => h (e ▸ mB), fun e => h (e ▸ mN)⟩
                refine ⟨N, _, _, rfl, rfl, li13.l.hN, by rw [el]; exact small_line (by omega), ?_⟩
                have l14 := li13.law (li13.nl _ mN) (li13.dj _ mN) (li13.l.putN ht13 hba13 (ne k3).1 (ne k3).2 (ne q3).1 (ne q3).2) fun c hc => by
                  rcases lall_putN hc with m | m | m
                  · exact ⟨li13.nl _ m, li13.dj _ m⟩
                  · rw [m]; exact ⟨k1, k2⟩
                  · rw [m]; exact ⟨q1, q2'⟩
                rw [← eC]
                refine ⟨{ D' with wt := D'.wt ++ [(at_, bb)] }, p', { g with pr := g.pr ++ [(t0, at_, ba, bb)] }, N, lf', ta, t, _, _, _, _, _, _, _, _, rfl, ⟨l14.B0, l14.bx, l14.U, l14.d, l14.nd, l14.l.of eS (by show D'.wt ++ _ = D.wt ++ _; rw [eW]), l14.nl, l14.dj⟩, ?_, eS ▸ ln, ?_, sc', ⟨(upd_ne (ne tA13.l).2).trans tA13.at_, tA13.n0, tA13.d, fun m => ?_⟩⟩
                · refine ⟨ok'.lo, ok'.hi, ok'.st, fun w hw => ?_, ok'.torn, ?_, ok'.tl⟩
                  · rcases List.mem_append.mp hw with m | m
                    · exact ok'.wt w m
                    · rw [List.mem_singleton.mp m]
                      exact ⟨⟨a0, by show at_ < (D'.st.length : Int); rw [eS, ln]; exact a1⟩, hblk⟩
                  · show (D'.wt ++ _).length ≤ 3000
                    rw [List.length_append, eW]
                    show D.wt.length + 1 ≤ 3000
                    omega
                · show (D'.wt ++ _).length ≤ m + 1
                  rw [List.length_append, eW]
                  show D.wt.length + 1 ≤ m + 1
                  omega
                · rcases lall_putN m with z | z | z
                  · exact tA13.l z
                  · exact tat0 z
                  · exact tba z
              · have tA4 := tA.disk li f4 n4
                have li4 := li.disk d4 f4 n4
                obtain ⟨e0, eT⟩ : lf = 0 ∧ D.torn = t := by
                  rcases sc.1 with ⟨af, _⟩ | ⟨af, _, _, eT⟩
                  · unfold DSt.met at em
                    rw [af] at em
                    cases em
                  · unfold DSt.met at em
                    rw [af] at em
                    by_cases z : lf = 0
                    · exact ⟨z, eT⟩
                    · have em : (if lf = 0 then none else some { D with after := some (lf - 1) }) = (none : Option DSt) := em
                      rw [if_neg z] at em
                      cases em
                rw [eT] at li4
                have li4 := li4.same (same_new (o := .tup [V.str "refused", .str "cut"]) ntt)
                have tA4 := tA4.same (same_new (o := .tup [V.str "refused", .str "cut"]) ntt)
                have htt : upd G4 tt (.tup [V.str "refused", .str "cut"]) tt = some (.tup [V.str "refused", .str "cut"]) := upd_same
                generalize upd G4 tt (.tup [V.str "refused", .str "cut"]) = G5 at li4 tA4 htt
                refine ⟨_, rfl, rfl, _, rfl, ite_int (fun _ => ?_) (fun z => absurd e0 z)⟩
                refine ⟨_, rfl, (by show 2 ≤ sizeLine; decide), fun u1 nu1 => told_ne (by decide +kernel) (same_new nu1 _ _ htt) upd_same ⟨_, rfl, iteF ?_⟩⟩
                have li5 := li4.same (same_new (o := .tup [V.str "refused", .str "cut"]) nu1)
                have tA5 := tA4.same (same_new (o := .tup [V.str "refused", .str "cut"]) nu1)
                generalize upd G5 u1 (.tup [V.str "refused", .str "cut"]) = G6 at li5 tA5
                refine ⟨_, rfl, ta, _, rfl, .inl (SqL.of tA5.at_), _, rfl, N, _, rfl, .inl (SqL.of li5.l.hN), _, _, rfl, ?_⟩
                rw [el, List.length_map]
                obtain ⟨mm, emm, emin⟩ : ∃ mm : Nat, (if (D.wt.length : Int) < (t.length : Int) then (D.wt.length : Int) else (t.length : Int)) = (mm : Int) ∧ mm = min t.length D.wt.length := by
                  refine ⟨min t.length D.wt.length, ?_, rfl⟩
                  split <;> omega
                rw [emm]
                have mmb : mm ≤ 3000 := by rw [emin]; omega
                refine ⟨_, rfl, by omega, by omega, for_range (n := ((mm : Nat) : Int).toNat) (fun j σ H' => ∃ (br : List (Addr × List Int)) (v4 v16 : Option V), σ = [some (.ref a), some (.ref b), some (.int (n : Int)), some (.ref x), v4, some (.ref Bl), some (.ref N), some (.int lf), some (.ref ta), some (.int D.cuts), some (.int (0 + (m : Int))), some (.int kd), v12, some (.int at_), some (.ref ba), some (.ref tt), v16, v17] ∧
                    LI H0 H' Cd b x Bl N (D.cutD t) { D with st := cutSt t D.wt D.st j } p' { g with br := br } ∧ TA H0 H' x Bl N p' { g with br := br } ta t)
                  ⟨g.br, _, _, rfl, li5, tA5⟩ ?_ ?_⟩
                · rintro j σ H12 hj ⟨br, v4, v16, rfl, l9, t9⟩
                  rw [Int.toNat_natCast] at hj
                  have hjw : j < g.pr.length := by rw [← List.length_map (f := fun q => V.ref q.1), el]; omega
                  have hjt : j < t.length := by omega
                  have hq := List.getElem?_eq_getElem hjw
                  generalize g.pr[j] = q at hq
                  have hw : D.wt[j]? = some (q.2.1, q.2.2.2) := by rw [← li.l.wt, List.getElem?_map, hq]; rfl
                  obtain ⟨wk, wb⟩ := ok.wt _ (List.mem_of_getElem? hw)
                  obtain ⟨ht, hb, n1, n2, n3, n4⟩ := l9.l.pr q (List.mem_of_getElem? hq)
                  obtain ⟨cb, cl2⟩ := cut_blk (t := t) ok.st ok.wt j
                  have brl : br.length = D.st.length := by
                    have := congrArg List.length l9.l.st
                    rw [List.length_map] at this
                    exact this.trans cl2
                  obtain ⟨k, ek⟩ : ∃ k : Nat, q.2.1 = (k : Int) := ⟨q.2.1.toNat, by have := wk.1; show q.2.1 = _; simp only at this; omega⟩
                  have hkl : k < br.length := by have := wk.2; simp only at this; omega
                  have hg := List.getElem?_eq_getElem hkl
                  generalize br[k] = q0 at hg
                  obtain ⟨r0', b0⟩ := q0
                  have hr0 := (l9.l.br _ (List.mem_of_getElem? hg)).1
                  have e0 : (cutSt t D.wt D.st j).getD k [] = b0 := by
                    have e : br.map (·.2) = cutSt t D.wt D.st j := l9.l.st
                    rw [← e, List.getD_eq_getElem?_getD, List.getElem?_map, hg]
                    rfl
                  have hb0 : Blk b0 := by
                    rw [← e0, List.getD_eq_getElem?_getD, List.getElem?_eq_getElem (by rw [cl2]; omega)]
                    exact cb _ (List.getElem_mem _)
                  have tg : t.getD j 0 = ((keptOf t j : Nat) : Int) ∧ keptOf t j ≤ 32 := by
                    have := List.all_eq_true.mp sc.2.1 (t.getD j 0) (by
                      rw [List.getD_eq_getElem?_getD, List.getElem?_eq_getElem hjt]
                      exact List.getElem_mem hjt)
                    rw [Bool.and_eq_true] at this
                    have h1 := of_decide_eq_true this.1
                    have h2 := of_decide_eq_true this.2
                    unfold keptOf
                    omega
                  have at_t : atI (t.map V.int) ((j : Nat) : Int) = some (.int ((keptOf t j : Nat) : Int)) := by
                    rw [← tg.1]
                    exact atI_get hjt
                  have at_p : atI (g.pr.map fun q => V.ref q.1) ((j : Nat) : Int) = some (.ref q.1) := atI_nat (j := j) (by rw [List.getElem?_map, hq]; rfl)
                  rw [Int.zero_add (j : Int)]
                  refine ⟨_, rfl, _, rfl, N, _, _, _, rfl, rfl, SqL.of l9.l.hN, at_p, q.1, _, _, _, rfl, rfl, SqL.of ht, rfl, ?_⟩
                  rw [ek]
                  refine ⟨_, rfl, _, rfl, N, _, _, _, rfl, rfl, SqL.of l9.l.hN, at_p, q.1, _, _, _, rfl, rfl, SqL.of ht, rfl, _, rfl, _, rfl, ta, _, _, _, rfl, rfl, SqL.of t9.at_, at_t, _, rfl, q.2.2.1, _, rfl, SqL.of hb, fun p1 np1 => ?_⟩
                  rw [cutV_int, cutA_head _ _ (by rw [wb.1]; exact tg.2)]
                  have X1 := same_new (o := .lst ((q.2.2.2.take (keptOf t j)).map V.int)) np1
                  have h1p : upd H12 p1 (.lst ((q.2.2.2.take (keptOf t j)).map V.int)) p1 = some (.lst ((q.2.2.2.take (keptOf t j)).map V.int)) := upd_same
                  generalize upd H12 p1 (.lst ((q.2.2.2.take (keptOf t j)).map V.int)) = H13 at X1 h1p
                  have l13 := l9.same X1
                  refine ⟨_, rfl, _, rfl, Bl, _, _, _, rfl, rfl, SqL.of l13.l.hB, atI_nat (j := k) (by rw [List.getElem?_map, hg]; rfl), _, rfl, _, rfl, ta, _, _, _, rfl, rfl, SqL.of (X1 _ _ t9.at_), at_t, _, rfl, r0', _, rfl, SqL.of (X1 _ _ hr0), fun p2 np2 => ?_⟩
                  rw [cutV_int, cutA_tail _ _ (by rw [hb0.1]; exact tg.2)]
                  refine ⟨p1, p2, _, _, rfl, rfl, same_new np2 _ _ h1p, upd_same, ?_, fun p3 np3 => ?_⟩
                  · rw [List.length_map, List.length_map, List.length_take, List.length_drop, wb.1, hb0.1]
                    exact Nat.le_trans (m := 64) (by have := tg.2; omega) (by decide)
                  rw [← List.map_append]
                  have X3 := (X1.trans (same_new (o := .lst ((b0.drop (keptOf t j)).map V.int)) np2)).trans (same_new (o := .lst ((q.2.2.2.take (keptOf t j) ++ b0.drop (keptOf t j)).map V.int)) np3)
                  have h3p : upd (upd H13 p2 (.lst ((b0.drop (keptOf t j)).map V.int))) p3 (.lst ((q.2.2.2.take (keptOf t j) ++ b0.drop (keptOf t j)).map V.int)) p3 = some (.lst ((q.2.2.2.take (keptOf t j) ++ b0.drop (keptOf t j)).map V.int)) := upd_same
                  have n3' : H12 p3 = none := same_none (X1.trans (same_new np2)) np3
                  generalize upd (upd H13 p2 (.lst ((b0.drop (keptOf t j)).map V.int))) p3 (.lst ((q.2.2.2.take (keptOf t j) ++ b0.drop (keptOf t j)).map V.int)) = H14 at X3 h3p
                  obtain ⟨s1, s2, s3⟩ := l9.new n3'
                  have tap : ta ≠ p3 := fun e => by rw [← e, t9.at_] at n3'; cases n3'
                  have l14 := l9.same X3
                  have t14 := t9.same X3
                  have mB : Bl ∈ LPl.all { g with br := br } Bl N := mem_lall.mpr (.inl rfl)
                  have mN : N ∈ LPl.all { g with br := br } Bl N := mem_lall.mpr (.inr (.inl rfl))
                  have taB : ta ≠ Bl := fun e => t9.l (e ▸ mB)
                  refine ⟨_, rfl, _, rfl, Bl, _, _, k, rfl, rfl, l14.l.hB, ixN_at (by rw [List.length_map]; exact hkl), br.set k (p3, q.2.2.2.take (keptOf t j) ++ b0.drop (keptOf t j)), _, _, rfl, ?_, ⟨(upd_ne taB).trans t14.at_, t14.n0, t14.d, fun m => ?_⟩⟩
                  · have es : cutSt t D.wt D.st (j + 1) = (cutSt t D.wt D.st j).set k (q.2.2.2.take (keptOf t j) ++ b0.drop (keptOf t j)) := by
                      rw [cutSt_succ]
                      unfold cutStep
                      rw [hw]
                      show (cutSt t D.wt D.st j).set q.2.1.toNat (q.2.2.2.take (keptOf t j) ++ ((cutSt t D.wt D.st j).getD q.2.1.toNat []).drop (keptOf t j)) = _
                      rw [ek, Int.toNat_natCast, e0]
                    rw [es]
                    refine l14.law (l14.nl _ mB) (l14.dj _ mB) (l14.l.setB (k := k) h3p (fun e => s3 (e ▸ mB)) (fun e => s3 (e ▸ mN))) fun c hc => ?_
                    rcases lall_setB (g := { g with br := br }) hc with m | m
                    · exact ⟨l14.nl _ m, l14.dj _ m⟩
                    · rw [m]
                      exact ⟨s1, s2⟩
                  · rcases lall_setB (g := { g with br := br }) m with z | z
                    · exact t9.l z
                    · exact tap z
                · rintro σ H12 ⟨br, v4, v16, rfl, l9, t9⟩
                  rw [Int.toNat_natCast] at l9
                  refine ⟨(by show 0 ≤ sizeLine; decide), fun N' nN' => ⟨_, _, rfl, rfl, _, rfl, _, _, rfl, rfl, ?_⟩⟩
                  obtain ⟨s1, s2, s3⟩ := l9.new nN'
                  have taN : ta ≠ N' := fun e => by rw [← e, t9.at_] at nN'; cases nN'
                  have l10 := l9.same (same_new (o := .lst ([] : List V)) nN')
                  have t10 := t9.same (same_new (o := .lst ([] : List V)) nN')
                  have est : cutSt t D.wt D.st mm = cutSt t D.wt D.st D.wt.length := by rw [emin]; exact cut_stop ok.st ok.wt
                  rw [est] at l10
                  refine ⟨D.cutD t, p', { g with br := br, pr := [] }, N', -1, ta, t, _, _, _, _, _, _, _, _, rfl, ⟨l10.B0, l10.bx, l10.U, l10.d, l10.nd, (l10.l.newN upd_same s3).of rfl rfl, fun c hc => ?_, fun c hc => ?_⟩, ok.cut t, (cut_blk (t := t) ok.st ok.wt D.wt.length).2.trans ln, Nat.zero_le _, ⟨.inl ⟨rfl, rfl⟩, sc.2.1, sc.2.2⟩, ⟨t10.at_, t10.n0, t10.d, fun m => ?_⟩⟩
                  · rcases lall_newN (g := { g with br := br }) hc with m | m
                    · exact l9.nl c m
                    · rw [m]; exact s1
                  · rcases lall_newN (g := { g with br := br }) hc with m | m
                    · exact l9.dj c m
                    · rw [m]; exact s2
                  · rcases lall_newN (g := { g with br := br }) m with z | z
                    · exact t9.l z
                    · exact taN z
      all_goals (
        refine ⟨_, rfl, b, 21, rfl, li.bx, by decide, fun lf' H8 lf0 lf1 B8 U8 => ?_⟩
        have li := li.but U8 B8
        refine ⟨_, rfl, b, 9, rfl, li.bx, by decide, by decide, fun ta' t' H9 nta B9 U9 hta okT tl => ?_⟩
        obtain ⟨q1, q2, q3⟩ := li.new nta
        have li := li.but U9 B9
        refine ⟨_, rfl, ta', _, rfl, .inl (SqL.of hta), fun hd nh => ?_⟩
        obtain ⟨h1, h2, h3⟩ := li.new nh
        have tah : ta' ≠ hd := fun e => by rw [e, nh] at hta; cases hta
        have hta := same_new (o := .lst (t'.map V.int)) nh _ _ hta
        have li := li.same (same_new (o := .lst (t'.map V.int)) nh)
        have hhd : upd H9 hd (.lst (t'.map V.int)) hd = some (.lst (t'.map V.int)) := upd_same
        generalize upd H9 hd (.lst (t'.map V.int)) = H10 at li hta hhd
        refine ⟨_, rfl, _, rfl, _, rfl, x, D, p, lf', hd, t', rfl, li.d, ok, hhd, by omega, fun _ _ p' H11 d11 f11 n11 => ?_, fun bad => absurd ⟨lf0, by omega⟩ bad, fun _ bad => absurd (okT.symm.trans bad) (by decide)⟩
        have tA' : TA H0 H10 x Bl N p g ta' t' := ⟨hta, q1, q2, q3⟩
        have tA' := tA'.disk li f11 n11
        have hh11 := f11 hd _ h2 hhd
        have h2' : hd ∉ p'.all x := fun m => by
          rcases n11 hd m with z | z
          · exact h2 z
          · rw [hhd] at z; cases z
        have li := li.disk d11 f11 n11
        have ok' : ({ D with after := some lf', torn := t' } : DSt).Ok := ⟨ok.lo, ok.hi, ok.st, ok.wt, fun v hv => by
          have := List.all_eq_true.mp okT v hv
          rw [Bool.and_eq_true] at this
          exact ⟨of_decide_eq_true this.1, of_decide_eq_true this.2⟩, ok.few, by show t'.length ≤ 3000; omega⟩
        refine ⟨rfl, _, rfl, iteF ?_⟩
        refine ⟨_, rfl, .inl ⟨rfl, _, SqL.of hh11⟩, hd, _, _, rfl, rfl, hh11, by rw [List.length_map]; exact small_line (by omega), ?_⟩
        have tA' : TA H0 (upd H11 hd (.lst (t'.map V.int ++ [.int 1]))) x Bl N p' g ta' t' := ⟨(upd_ne tah).trans tA'.at_, tA'.n0, tA'.d, tA'.l⟩
        have li := li.put (o := .lst (t'.map V.int ++ [.int 1])) h1 h2' h3
        generalize upd H11 hd (.lst (t'.map V.int ++ [.int 1])) = H12 at li tA'
        -- numbers out of range
        refine ⟨_, rfl, _, _, rfl, rfl, (by show 2 ≤ sizeLine; decide), fun l2 nl2 => ⟨_, rfl, b, 2, rfl, li.bx.new nl2, by decide, fun r2 H13 r20 r21 B13 U13 => ?_⟩⟩
        have hl2 := li.bx.keepL nl2 U13
        have U13 : But b H12 H13 := (But.of (same_new nl2)).trans U13
        have tA' := tA'.but li U13
        have li := li.but U13 B13
        obtain ⟨ba, eba, nba⟩ : ∃ ba : Int, atI [V.int (0 - 1), .int 100001] r2 = some (.int ba) ∧ ¬ (0 ≤ ba ∧ ba ≤ 100000) := by
          have c : r2 = 0 ∨ r2 = 1 := by omega
          rcases c with rfl | rfl
          · exact ⟨0 - 1, rfl, by omega⟩
          · exact ⟨100001, rfl, by omega⟩
        refine ⟨l2, _, _, _, rfl, rfl, SqL.of hl2, eba, (by show 1 ≤ sizeLine; decide), fun l3 nl3 => ?_⟩
        have tA' := tA'.same (same_new (o := .lst [V.int 33]) nl3)
        have li := li.same (same_new (o := .lst [V.int 33]) nl3)
        have hl3 : upd H13 l3 (.lst [V.int 33]) l3 = some (.lst (([33] : List Int).map V.int)) := upd_same
        generalize upd H13 l3 (.lst [V.int 33]) = H14 at li tA' hl3
        refine ⟨x, _, p', ba, l3, [33], rfl, li.d, ok', hl3, by decide, fun a => absurd a nba, fun _ => raises_told fun t1 H15 S15 ht1 => ?_, fun a => absurd a nba⟩
        refine ⟨(by show 2 ≤ sizeLine; decide), fun u1 nu1 => told_ne (by decide +kernel) (same_new nu1 _ _ ht1) upd_same ⟨_, rfl, iteF ?_⟩⟩
        have S16 := S15.trans (same_new (o := .tup [V.str "refused", .str "many"]) nu1)
        have tA' := tA'.same S16
        have li := li.same S16
        generalize upd H15 u1 (.tup [V.str "refused", .str "many"]) = H16 at li tA'
        refine ⟨_, rfl, (by show 1 ≤ sizeLine; decide), fun l4 nl4 => ?_⟩
        have tA' := tA'.same (same_new (o := .lst [V.int 33]) nl4)
        have li := li.same (same_new (o := .lst [V.int 33]) nl4)
        have hl4 : upd H16 l4 (.lst [V.int 33]) l4 = some (.lst (([33] : List Int).map V.int)) := upd_same
        generalize upd H16 l4 (.lst [V.int 33]) = H17 at li tA' hl4
        refine ⟨x, _, p', 3, l4, [33], rfl, li.d, ok', hl4, by decide, fun _ o => absurd o (by decide), fun na => absurd ⟨by decide, by decide⟩ na, fun _ _ => raises_told fun t2 H18 S18 ht2 => ?_⟩
        refine ⟨(by show 2 ≤ sizeLine; decide), fun u2 nu2 => told_ne (by decide +kernel) (same_new nu2 _ _ ht2) upd_same ⟨_, rfl, iteF ?_⟩⟩
        have S19 := S18.trans (same_new (o := .tup [V.str "refused", .str "torn"]) nu2)
        exact ⟨{ D with after := some lf', torn := t' }, p', g, N, lf', ta', t', _, _, _, _, _, _, _, _, rfl, ⟨(li.same S19).B0, (li.same S19).bx, (li.same S19).U, (li.same S19).d, (li.same S19).nd, (li.same S19).l.of rfl rfl, (li.same S19).nl, (li.same S19).dj⟩, ok', ln, by show D.wt.length ≤ m + 1; omega, ⟨.inr ⟨rfl, lf0, by omega, rfl⟩, okT, tl⟩, tA'.same S19⟩)
    · rintro σ H6 ⟨D, p, g, N, lf, ta, t, v4, v10, v11, v12, v13, v14, v15, v16, v17, rfl, li, ok, ln, wl, sc, tA⟩
      refine ⟨_, rfl, x, _, _, rfl, li.d.obj, rfl, (by show 0 ≤ sizeLine; decide), fun l0 nl0 => ?_⟩
      have l0n := li.d.new nl0
      have li := li.same (same_new (o := .lst ([] : List V)) nl0)
      have hl0 : upd H6 l0 (.lst []) l0 = some (.lst (([] : List Int).map V.int)) := upd_same
      generalize upd H6 l0 (.lst []) = H9 at li hl0
      refine ⟨x, D, p, l0, [], rfl, li.d, ok, hl0, (fun e => l0n (mem_all.mpr (.inr (.inl e)))), by decide, fun _ p' H10 d10 f10 n10 => ?_, fun bad => absurd bad (by decide)⟩
      have li := li.disk d10 f10 n10
      have est : cutSt [] D.wt D.st D.wt.length = D.st := (cut_stop (t := []) ok.st ok.wt).symm
      refine ⟨_, rfl, _, rfl, by omega, by omega, fun D2 nD2 => ?_⟩
      obtain ⟨s1, s2, s3⟩ := li.new nD2
      refine lc_range (n := ((n : Nat) : Int).toNat) (fun j H' => LI H0 H' Cd b x Bl N (D.cutD []) D p' g ∧ ∃ rs : List (Addr × List Int), H' D2 = some (.lst (rs.map fun q => V.ref q.1)) ∧ rs.map (·.2) = D.st.take j ∧ ∀ q ∈ rs, q.1 ≠ D2 ∧ H' q.1 = some (.lst (q.2.map V.int)))
        ⟨li.same (same_new nD2), [], upd_same, rfl, fun q h => (nomatch h)⟩ ?_ ?_
      · rintro j H11 hj ⟨l11, rs, hD2, re, hrs⟩
        rw [Int.toNat_natCast] at hj
        have cl3 : (D.cutD []).st.length = n := by show (cutSt [] D.wt D.st D.wt.length).length = n; rw [est]; exact ln
        refine ⟨rfl, _, rfl, x, _, _, rfl, l11.d.obj, rfl, _, rfl, x, D.cutD [], p', 0 + (j : Int), rfl, l11.d, ok.cut [], fun _ r H12 S12 nr hr => ?_, fun bad => absurd ⟨by omega, by rw [cl3]; omega⟩ bad⟩
        have rD : r ≠ D2 := fun e => by rw [e, hD2] at nr; cases nr
        have hj2 : j < D.st.length := by omega
        have er : (D.cutD []).readB (0 + (j : Int)) = D.st[j] := by
          show ((cutSt [] D.wt D.st D.wt.length).getD (0 + (j : Int)).toNat []) = _
          rw [est, show (0 + (j : Int)).toNat = j by omega, List.getD_eq_getElem?_getD, List.getElem?_eq_getElem hj2]
          rfl
        rw [er] at hr
        refine ⟨_, S12 _ _ hD2, ?_, (l11.same S12).put s1 s2 s3, rs ++ [(r, D.st[j])], upd_same.trans (by rw [List.map_append]; rfl), by rw [List.map_append, re, takeS (List.getElem?_eq_getElem hj2)]; rfl, fun q hq => ?_⟩
        · rw [List.length_map, ← List.length_map (f := (·.2)), re, List.length_take]
          exact small_line (by have := ok.hi; omega)
        · rcases List.mem_append.mp hq with z | z
          · obtain ⟨z1, z2⟩ := hrs q z
            exact ⟨z1, by rw [upd_ne z1]; exact S12 _ _ z2⟩
          · rw [List.mem_singleton.mp z]
            exact ⟨rD, by rw [upd_ne rD]; exact hr⟩
      · rintro H11 ⟨l11, rs, hD2, re, hrs⟩
        rw [Int.toNat_natCast, List.take_of_length_le (by omega)] at re
        refine ⟨_, rfl, dSts D.st, dSts D.st, ?_, ?_, shaped_sts _, shaped_sts _, ?_⟩
        · rw [← re]
          exact .lst (SqL.of hD2) (dp_sts fun q hq => (hrs q hq).2)
        · rw [← l11.l.st]
          exact .lst (SqL.of l11.l.hB) (dp_sts fun q hq => (l11.l.br q hq).1)
        · rw [SeqAt.eqv_refl _ (SeqAt.canLay_of_shaped (shaped_sts _))]
          exact q _
end
end LB

set_option maxRecDepth 100000
set_option maxHeartbeats 8000000
namespace LB
open PySem PySem.Spec PyProof.Rows L2
open PySem.W (nsIn findIn subIn typeIn mroIn keepIn codeIn hasDictIn isClsIn specialIn takesIn)
/-- the law's def keeps its promise, from what the top has written -/
theorem all_mk {l : PySem.W.OpenLaw} {w : World} {K : PySem.W.Frag} {h : Heap} {mg : Str → Option Value} {fa : Addr} (X : K.In h) (G : h.Ns mainGlobals mg) (hfa : mg "law" = some (.ref fa))
    {fCell fDig fDr fCt fLt fLs fLr fLc fLw Cd fIn fSz fRe fWr fFl fPc fCu fCw fSc fPl fMe C B fI cc cda N0 : Addr} {odCell anCell odDig anDig odDr anDr odCt anCt odLt anLt odLs anLs odLr anLr odLc anLc odLw anLw odIn anIn odSz anSz odRe anRe odWr anWr odFl anFl odPc anPc odCu anCu odCw anCw odSc anSc odPl anPl odMe anMe odI anI ocd cdd : Option Addr} {slCell slDig slDr slCt slLt slLs slLr slLc slLw slIn slSz slRe slWr slFl slPc slCu slCw slSc slPl slMe slI csl ccs : Array (Option Value)} {ocCell kVCell dcCell pmCell cdCell ctCell ocDig kVDig dcDig pmDig cdDig ctDig ocDr kVDr dcDr pmDr cdDr ctDr ocCt kVCt dcCt pmCt cdCt ctCt ocLt kVLt dcLt pmLt cdLt ctLt ocLs kVLs dcLs pmLs cdLs ctLs ocLr kVLr dcLr pmLr cdLr ctLr ocLc kVLc dcLc pmLc cdLc ctLc ocLw kVLw dcLw pmLw cdLw ctLw ocIn kVIn dcIn pmIn cdIn ctIn ocSz kVSz dcSz pmSz cdSz ctSz ocRe kVRe dcRe pmRe cdRe ctRe ocWr kVWr dcWr pmWr cdWr ctWr ocFl kVFl dcFl pmFl cdFl ctFl ocPc kVPc dcPc pmPc cdPc ctPc ocCu kVCu dcCu pmCu cdCu ctCu ocCw kVCw dcCw pmCw cdCw ctCw ocSc kVSc dcSc pmSc cdSc ctSc ocPl kVPl dcPl pmPl cdPl ctPl ocMe kVMe dcMe pmMe cdMe ctMe ocI dcI pmI ctI clc ccl : Value} {tbl tmo tle tby tcm : Tok} {Cp : Addr}
    {nm qn file : Str} {bs : List Value} {sn : List Str} {sub : List Value} {ab : Bool} {col : Option Bool} {dd : Option Addr} {m0 m1 m2 m3 m5 : Option Value} {vs : Array Value} {tf : Tok}
    (aCell : nsIn K mainGlobals "_law_cell" = some (some (.ref fCell)))
    (lCell : K.lookup fCell = some ⟨ocCell, odCell, .func (PySem.W.fnOf "_law_cell" "_law_cell" (defArgs sCell) (defBody sCell) (defScope sCell) .none kVCell dcCell pmCell anCell cdCell ctCell), slCell⟩)
    (cCell : codeIn K cdCell "_law_cell" = true)
    (kCell : keepIn K (.ref fCell) = true)
    (aDig : nsIn K mainGlobals "_law_digits" = some (some (.ref fDig)))
    (lDig : K.lookup fDig = some ⟨ocDig, odDig, .func (PySem.W.fnOf "_law_digits" "_law_digits" (defArgs sDigits) (defBody sDigits) (defScope sDigits) .none kVDig dcDig pmDig anDig cdDig ctDig), slDig⟩)
    (cDig : codeIn K cdDig "_law_digits" = true)
    (kDig : keepIn K (.ref fDig) = true)
    (aDr : nsIn K mainGlobals "_law_draw" = some (some (.ref fDr)))
    (lDr : K.lookup fDr = some ⟨ocDr, odDr, .func (PySem.W.fnOf "_law_draw" "_law_draw" (defArgs sDraw) (defBody sDraw) (defScope sDraw) .none kVDr dcDr pmDr anDr cdDr ctDr), slDr⟩)
    (cDr : codeIn K cdDr "_law_draw" = true)
    (kDr : keepIn K (.ref fDr) = true)
    (aCt : nsIn K mainGlobals "check_torn" = some (some (.ref fCt)))
    (lCt : K.lookup fCt = some ⟨ocCt, odCt, .func (PySem.W.fnOf "check_torn" "check_torn" (defArgs sCheckTorn) (defBody sCheckTorn) (defScope sCheckTorn) .none kVCt dcCt pmCt anCt cdCt ctCt), slCt⟩)
    (cCt : codeIn K cdCt "check_torn" = true)
    (kCt : keepIn K (.ref fCt) = true)
    (aLt : nsIn K mainGlobals "_law_torn" = some (some (.ref fLt)))
    (lLt : K.lookup fLt = some ⟨ocLt, odLt, .func (PySem.W.fnOf "_law_torn" "_law_torn" (defArgs sLTorn) (defBody sLTorn) (defScope sLTorn) .none kVLt dcLt pmLt anLt cdLt ctLt), slLt⟩)
    (cLt : codeIn K cdLt "_law_torn" = true)
    (kLt : keepIn K (.ref fLt) = true)
    (aLs : nsIn K mainGlobals "_law_schedule" = some (some (.ref fLs)))
    (lLs : K.lookup fLs = some ⟨ocLs, odLs, .func (PySem.W.fnOf "_law_schedule" "_law_schedule" (defArgs sSched) (defBody sSched) (defScope sSched) .none kVLs dcLs pmLs anLs cdLs ctLs), slLs⟩)
    (cLs : codeIn K cdLs "_law_schedule" = true)
    (kLs : keepIn K (.ref fLs) = true)
    (aLr : nsIn K mainGlobals "_law_do_raw" = some (some (.ref fLr)))
    (lLr : K.lookup fLr = some ⟨ocLr, odLr, .func (PySem.W.fnOf "_law_do_raw" "_law_do_raw" (defArgs sDoRaw) (defBody sDoRaw) (defScope sDoRaw) .none kVLr dcLr pmLr anLr cdLr ctLr), slLr⟩)
    (cLr : codeIn K cdLr "_law_do_raw" = true)
    (kLr : keepIn K (.ref fLr) = true)
    (aLc : nsIn K mainGlobals "_law_do" = some (some (.ref fLc)))
    (lLc : K.lookup fLc = some ⟨ocLc, odLc, .func (PySem.W.fnOf "_law_do" "_law_do" (defArgs sDo) (defBody sDo) (defScope sDo) .none kVLc dcLc pmLc anLc cdLc ctLc), slLc⟩)
    (cLc : codeIn K cdLc "_law_do" = true)
    (kLc : keepIn K (.ref fLc) = true)
    (aLw : nsIn K mainGlobals "law" = some (some (.ref fLw)))
    (lLw : K.lookup fLw = some ⟨ocLw, odLw, .func (PySem.W.fnOf "law" "law" (defArgs sLaw) (defBody sLaw) (defScope sLaw) .none kVLw dcLw pmLw anLw cdLw ctLw), slLw⟩)
    (cLw : codeIn K cdLw "law" = true)
    (kLw : keepIn K (.ref fLw) = true)
    (aCd : nsIn K mainGlobals "Disk" = some (some (.ref Cd)))
    (pgCd : PySem.W.plainGet K Cd Str.empty = true)
    (hdCd : hasDictIn K Cd = true)
    (poCd : PySem.W.plainOver K Cd = true)
    (saCd : findIn K (.ref Cd) "__setattr__" = some (some (.builtin "object.__setattr__")))
    (mkCd : PySem.W.makesIn K Cd = true)
    (kpCd : keepIn K (.ref Cd) = true)
    (nCd_stored : findIn K (.ref Cd) "_stored" = some none)
    (nCd_waiting : findIn K (.ref Cd) "_waiting" = some none)
    (nCd_cuts : findIn K (.ref Cd) "_cuts" = some none)
    (nCd_cut_after : findIn K (.ref Cd) "_cut_after" = some none)
    (nCd_torn : findIn K (.ref Cd) "_torn" = some none)
    (aIn : findIn K (.ref Cd) "__init__" = some (some (.ref fIn)))
    (lIn : K.lookup fIn = some ⟨ocIn, odIn, .func (PySem.W.fnOf "__init__" "Disk.__init__" (defArgs dsInit) (defBody dsInit) (defScope dsInit) .none kVIn dcIn pmIn anIn cdIn ctIn), slIn⟩)
    (cIn : codeIn K cdIn "Disk.__init__" = true)
    (kIn : keepIn K (.ref fIn) = true)
    (iIn : PySem.W.isFn K (.ref fIn) = true)
    (aSz : findIn K (.ref Cd) "size" = some (some (.ref fSz)))
    (lSz : K.lookup fSz = some ⟨ocSz, odSz, .func (PySem.W.fnOf "size" "Disk.size" (defArgs dsSize) (defBody dsSize) (defScope dsSize) .none kVSz dcSz pmSz anSz cdSz ctSz), slSz⟩)
    (cSz : codeIn K cdSz "Disk.size" = true)
    (kSz : keepIn K (.ref fSz) = true)
    (iSz : PySem.W.isFn K (.ref fSz) = true)
    (aRe : findIn K (.ref Cd) "read" = some (some (.ref fRe)))
    (lRe : K.lookup fRe = some ⟨ocRe, odRe, .func (PySem.W.fnOf "read" "Disk.read" (defArgs dsRead) (defBody dsRead) (defScope dsRead) .none kVRe dcRe pmRe anRe cdRe ctRe), slRe⟩)
    (cRe : codeIn K cdRe "Disk.read" = true)
    (kRe : keepIn K (.ref fRe) = true)
    (iRe : PySem.W.isFn K (.ref fRe) = true)
    (aWr : findIn K (.ref Cd) "write" = some (some (.ref fWr)))
    (lWr : K.lookup fWr = some ⟨ocWr, odWr, .func (PySem.W.fnOf "write" "Disk.write" (defArgs dsWrite) (defBody dsWrite) (defScope dsWrite) .none kVWr dcWr pmWr anWr cdWr ctWr), slWr⟩)
    (cWr : codeIn K cdWr "Disk.write" = true)
    (kWr : keepIn K (.ref fWr) = true)
    (iWr : PySem.W.isFn K (.ref fWr) = true)
    (aFl : findIn K (.ref Cd) "flush" = some (some (.ref fFl)))
    (lFl : K.lookup fFl = some ⟨ocFl, odFl, .func (PySem.W.fnOf "flush" "Disk.flush" (defArgs dsFlush) (defBody dsFlush) (defScope dsFlush) .none kVFl dcFl pmFl anFl cdFl ctFl), slFl⟩)
    (cFl : codeIn K cdFl "Disk.flush" = true)
    (kFl : keepIn K (.ref fFl) = true)
    (iFl : PySem.W.isFn K (.ref fFl) = true)
    (aPc : findIn K (.ref Cd) "pending_count" = some (some (.ref fPc)))
    (lPc : K.lookup fPc = some ⟨ocPc, odPc, .func (PySem.W.fnOf "pending_count" "Disk.pending_count" (defArgs dsPend) (defBody dsPend) (defScope dsPend) .none kVPc dcPc pmPc anPc cdPc ctPc), slPc⟩)
    (cPc : codeIn K cdPc "Disk.pending_count" = true)
    (kPc : keepIn K (.ref fPc) = true)
    (iPc : PySem.W.isFn K (.ref fPc) = true)
    (aCu : findIn K (.ref Cd) "cut_count" = some (some (.ref fCu)))
    (lCu : K.lookup fCu = some ⟨ocCu, odCu, .func (PySem.W.fnOf "cut_count" "Disk.cut_count" (defArgs dsCuts) (defBody dsCuts) (defScope dsCuts) .none kVCu dcCu pmCu anCu cdCu ctCu), slCu⟩)
    (cCu : codeIn K cdCu "Disk.cut_count" = true)
    (kCu : keepIn K (.ref fCu) = true)
    (iCu : PySem.W.isFn K (.ref fCu) = true)
    (aCw : findIn K (.ref Cd) "cut_power" = some (some (.ref fCw)))
    (lCw : K.lookup fCw = some ⟨ocCw, odCw, .func (PySem.W.fnOf "cut_power" "Disk.cut_power" (defArgs dsCut) (defBody dsCut) (defScope dsCut) .none kVCw dcCw pmCw anCw cdCw ctCw), slCw⟩)
    (cCw : codeIn K cdCw "Disk.cut_power" = true)
    (kCw : keepIn K (.ref fCw) = true)
    (iCw : PySem.W.isFn K (.ref fCw) = true)
    (aSc : findIn K (.ref Cd) "schedule_cut" = some (some (.ref fSc)))
    (lSc : K.lookup fSc = some ⟨ocSc, odSc, .func (PySem.W.fnOf "schedule_cut" "Disk.schedule_cut" (defArgs dsSched) (defBody dsSched) (defScope dsSched) .none kVSc dcSc pmSc anSc cdSc ctSc), slSc⟩)
    (cSc : codeIn K cdSc "Disk.schedule_cut" = true)
    (kSc : keepIn K (.ref fSc) = true)
    (iSc : PySem.W.isFn K (.ref fSc) = true)
    (aPl : findIn K (.ref Cd) "_check_place" = some (some (.ref fPl)))
    (lPl : K.lookup fPl = some ⟨ocPl, odPl, .func (PySem.W.fnOf "_check_place" "Disk._check_place" (defArgs dsPlace) (defBody dsPlace) (defScope dsPlace) .none kVPl dcPl pmPl anPl cdPl ctPl), slPl⟩)
    (cPl : codeIn K cdPl "Disk._check_place" = true)
    (kPl : keepIn K (.ref fPl) = true)
    (iPl : PySem.W.isFn K (.ref fPl) = true)
    (aMe : findIn K (.ref Cd) "_meet_cut" = some (some (.ref fMe)))
    (lMe : K.lookup fMe = some ⟨ocMe, odMe, .func (PySem.W.fnOf "_meet_cut" "Disk._meet_cut" (defArgs dsMeet) (defBody dsMeet) (defScope dsMeet) .none kVMe dcMe pmMe anMe cdMe ctMe), slMe⟩)
    (cMe : codeIn K cdMe "Disk._meet_cut" = true)
    (kMe : keepIn K (.ref fMe) = true)
    (iMe : PySem.W.isFn K (.ref fMe) = true)
    (z0 : nsIn K mainGlobals "len" = some none)
    (z1 : nsIn K mainGlobals "range" = some none)
    (z2 : nsIn K mainGlobals "int" = some none)
    (z3 : nsIn K mainGlobals "repr" = some none)
    (z4 : nsIn K mainGlobals "all" = some none)
    (z5 : nsIn K mainGlobals "list" = some none)
    (z6 : nsIn K mainGlobals "enumerate" = some none)
    (z7 : nsIn K mainGlobals "min" = some none)
    (z8 : nsIn K mainGlobals "isinstance" = some none)
    (aC : nsIn K mainGlobals "OutOfRange" = some (some (.ref C)))
    (aB : nsIn K mainGlobals "ForetoldError" = some (some (.ref B)))
    (xL : K.lookup C = some (excClassObj nm qn C N0 bs (.ref B :: veMro) true sn sub ab col dd m0 m1 m2 m3 m5 "ValueError.__new__"))
    (sa : findIn K (.ref C) "__setattr__" = some (some (.builtin "object.__setattr__")))
    (ga : findIn K (.ref C) "__getattribute__" = some (some (.builtin "BaseException.__getattribute__")))
    (gg : findIn K (.ref C) "__getattr__" = some none)
    (gn : findIn K (.ref C) "name" = some none)
    (iC : findIn K (.ref C) "__init__" = some (some (.ref fI)))
    (tI : typeIn K (.ref fI) = some (.type "function"))
    (kC : keepIn K (.ref C) = true)
    (eC : subIn K (.ref C) (.type "BaseException") = some true)
    (vC : subIn K (.ref C) (.type "ValueError") = some true)
    (tC : typeIn K (.ref C) = some (.type "type"))
    (hC : hasDictIn K C = true)
    (mC : mroIn K C (.ref C) = some true)
    (up : PySem.W.ks_superIn K C C "__init__" = some (some (.builtin "ValueError.__init__")))
    (xM : PySem.W.excInitIn K C veMro "ValueError.__new__" = true)
    (op : nsIn K cStatics "thirdparty.any" = some none)
    (nS : nsIn K mainGlobals "super" = some none)
    (lI : K.lookup fI = some ⟨ocI, odI, .func (PySem.W.ksFn "__init__" "OutOfRange.__init__" (eA ⟨9, 17, 9, 21⟩ ⟨9, 23, 9, 27⟩) (eB " is out of range" 0 ⟨10, 8, 10, 13⟩ ⟨10, 8, 10, 15⟩ ⟨10, 8, 10, 24⟩ ⟨10, 28, 10, 32⟩ ⟨10, 27, 10, 33⟩ ⟨10, 33, 10, 49⟩ ⟨10, 25, 10, 50⟩ ⟨10, 8, 10, 51⟩ ⟨10, 8, 10, 51⟩ ⟨11, 8, 11, 12⟩ ⟨11, 8, 11, 17⟩ ⟨11, 20, 11, 24⟩ ⟨11, 8, 11, 24⟩) eS .none .none dcI pmI anI (.ref cda) ctI cc), slI⟩)
    (cI : codeIn K (.ref cda) "OutOfRange.__init__" = true)
    (lc : K.lookup cc = some ⟨clc, ocd, .cell (some (.ref C)), csl⟩)
    (ld : K.lookup cda = some ⟨ccl, cdd, .fields vs, ccs⟩)
    (lv : vs[2]? = some (.str file tf))
    (lf : ((l.prog.main.file : Str) == file) = true)
    (lt : (l.prog.main.scope.names.lookup ("super" : Str)).isSome = false)
    (sC : subIn K (.ref C) (.ref C) = some true)
    (cbl : nsIn K mainGlobals "BLOCK" = some (some (.int 32 tbl)))
    (cmo : nsIn K mainGlobals "BLOCKS_MOST" = some (some (.int 400 tmo)))
    (cle : nsIn K mainGlobals "BLOCKS_LEAST" = some (some (.int 8 tle)))
    (cby : nsIn K mainGlobals "BYTE_MOST" = some (some (.int 255 tby)))
    (ccm : nsIn K mainGlobals "CUT_MOST" = some (some (.int 100000 tcm)))
    (cPg : nsIn K mainGlobals "PowerCut" = some (some (.ref Cp)))
    (cPx : PySem.W.excIn K Cp [.type "ValueError", .type "Exception", .type "BaseException", .type "object"] "ValueError.__new__" = true)
    (cPk : keepIn K (.ref Cp) = true)
    (cPb : subIn K (.ref Cp) (.type "BaseException") = some true)
    (cPt : typeIn K (.ref Cp) = some (.type "type"))
    (cPga : findIn K (.ref Cp) "__getattribute__" = some (some (.builtin "BaseException.__getattribute__")))
    (cPgg : findIn K (.ref Cp) "__getattr__" = some none)
    (cPh : hasDictIn K Cp = true)
    (cPx2 : findIn K (.ref Cp) "__class__" = some (some (.builtin "object.__class__")))
    (cPs : specialIn K (.builtin "object.__class__") "__get__" = some (some (.builtin "getset_descriptor.__get__")))
    (cPn : takesIn K (.builtin "object.__class__") = some true)
    (cPm : mroIn K Cp (.type "object") = some true)
    (cPP : subIn K (.ref Cp) (.ref Cp) = some true)
    (cCP : subIn K (.ref C) (.ref Cp) = some false)
    (cPC : subIn K (.ref Cp) (.ref C) = some false)
    (cPB : subIn K (.ref Cp) (.ref B) = some true)
    (cBt : typeIn K (.ref B) = some (.type "type"))
    (cBi : isClsIn K B = true)
    (cCi : isClsIn K C = true) :
    ∃ fd : FuncData, (∀ (s : Shared) (u : Value), BindsTo s fd ⟨[u], []⟩ [("script", u)]) ∧ ∀ base : Heap, K.In base → base.Ns mainGlobals mg → FnG l.prog w K mg base CX0 9 fa fd ["script"] (spLaw K) := by
  have FCell := fun_mk (st := sCell) lCell cCell kCell
  have bCell := FCell.binds (ps := ["script", "k"]) fun _ _ _ _ _ _ us hl => match us, hl with | [_, _], _ => rfl
  have mCell := PySem.W.mg_of X G aCell
  have FDig := fun_mk (st := sDigits) lDig cDig kDig
  have bDig := FDig.binds (ps := ["script", "first", "last"]) fun _ _ _ _ _ _ us hl => match us, hl with | [_, _, _], _ => rfl
  have mDig := PySem.W.mg_of X G aDig
  have FDr := fun_mk (st := sDraw) lDr cDr kDr
  have bDr := FDr.binds (ps := ["box", "many"]) fun _ _ _ _ _ _ us hl => match us, hl with | [_, _], _ => rfl
  have mDr := PySem.W.mg_of X G aDr
  have FCt := fun_mk (st := sCheckTorn) lCt cCt kCt
  have bCt := FCt.binds (ps := ["torn"]) fun _ _ _ _ _ _ us hl => match us, hl with | [_], _ => rfl
  have mCt := PySem.W.mg_of X G aCt
  have FLt := fun_mk (st := sLTorn) lLt cLt kLt
  have bLt := FLt.binds (ps := ["box", "many"]) fun _ _ _ _ _ _ us hl => match us, hl with | [_, _], _ => rfl
  have mLt := PySem.W.mg_of X G aLt
  have FLs := fun_mk (st := sSched) lLs cLs kLs
  have bLs := FLs.binds (ps := ["disk", "count", "torn"]) fun _ _ _ _ _ _ us hl => match us, hl with | [_, _, _], _ => rfl
  have mLs := PySem.W.mg_of X G aLs
  have FLr := fun_mk (st := sDoRaw) lLr cLr kLr
  have bLr := FLr.binds (ps := ["disk", "at", "block"]) fun _ _ _ _ _ _ us hl => match us, hl with | [_, _, _], _ => rfl
  have mLr := PySem.W.mg_of X G aLr
  have FLc := fun_mk (st := sDo) lLc cLc kLc
  have bLc := FLc.binds (ps := ["disk", "at", "block"]) fun _ _ _ _ _ _ us hl => match us, hl with | [_, _, _], _ => rfl
  have mLc := PySem.W.mg_of X G aLc
  have FLw := fun_mk (st := sLaw) lLw cLw kLw
  have clCd : Cls K Cd := ⟨pgCd, hdCd, poCd, saCd⟩
  have mgCd := PySem.W.mg_of X G aCd
  have FIn := fun_mk (st := dsInit) lIn cIn kIn
  have bIn := FIn.binds (ps := ["self", "blocks"]) fun _ _ _ _ _ _ us hl => match us, hl with | [_, _], _ => rfl
  have MIn : Mk K Cd fIn := ⟨mkCd, aIn, iIn, kpCd⟩
  have FSz := fun_mk (st := dsSize) lSz cSz kSz
  have bSz := FSz.binds (ps := ["self"]) fun _ _ _ _ _ _ us hl => match us, hl with | [_], _ => rfl
  have hSz : Meth K Cd "size" fSz := ⟨aSz, iSz, kSz⟩
  have FRe := fun_mk (st := dsRead) lRe cRe kRe
  have bRe := FRe.binds (ps := ["self", "at"]) fun _ _ _ _ _ _ us hl => match us, hl with | [_, _], _ => rfl
  have hRe : Meth K Cd "read" fRe := ⟨aRe, iRe, kRe⟩
  have FWr := fun_mk (st := dsWrite) lWr cWr kWr
  have bWr := FWr.binds (ps := ["self", "at", "block"]) fun _ _ _ _ _ _ us hl => match us, hl with | [_, _, _], _ => rfl
  have hWr : Meth K Cd "write" fWr := ⟨aWr, iWr, kWr⟩
  have FFl := fun_mk (st := dsFlush) lFl cFl kFl
  have bFl := FFl.binds (ps := ["self"]) fun _ _ _ _ _ _ us hl => match us, hl with | [_], _ => rfl
  have hFl : Meth K Cd "flush" fFl := ⟨aFl, iFl, kFl⟩
  have FPc := fun_mk (st := dsPend) lPc cPc kPc
  have bPc := FPc.binds (ps := ["self"]) fun _ _ _ _ _ _ us hl => match us, hl with | [_], _ => rfl
  have hPc : Meth K Cd "pending_count" fPc := ⟨aPc, iPc, kPc⟩
  have FCu := fun_mk (st := dsCuts) lCu cCu kCu
  have bCu := FCu.binds (ps := ["self"]) fun _ _ _ _ _ _ us hl => match us, hl with | [_], _ => rfl
  have hCu : Meth K Cd "cut_count" fCu := ⟨aCu, iCu, kCu⟩
  have FCw := fun_mk (st := dsCut) lCw cCw kCw
  have bCw := FCw.binds (ps := ["self", "torn"]) fun _ _ _ _ _ _ us hl => match us, hl with | [_, _], _ => rfl
  have hCw : Meth K Cd "cut_power" fCw := ⟨aCw, iCw, kCw⟩
  have FSc := fun_mk (st := dsSched) lSc cSc kSc
  have bSc := FSc.binds (ps := ["self", "many", "torn"]) fun _ _ _ _ _ _ us hl => match us, hl with | [_, _, _], _ => rfl
  have hSc : Meth K Cd "schedule_cut" fSc := ⟨aSc, iSc, kSc⟩
  have FPl := fun_mk (st := dsPlace) lPl cPl kPl
  have bPl := FPl.binds (ps := ["self", "at"]) fun _ _ _ _ _ _ us hl => match us, hl with | [_, _], _ => rfl
  have hPl : Meth K Cd "_check_place" fPl := ⟨aPl, iPl, kPl⟩
  have FMe := fun_mk (st := dsMeet) lMe cMe kMe
  have bMe := FMe.binds (ps := ["self"]) fun _ _ _ _ _ _ us hl => match us, hl with | [_], _ => rfl
  have hMe : Meth K Cd "_meet_cut" fMe := ⟨aMe, iMe, kMe⟩
  have n0 := PySem.W.mg_none_of X G z0
  have n1 := PySem.W.mg_none_of X G z1
  have n2 := PySem.W.mg_none_of X G z2
  have n3 := PySem.W.mg_none_of X G z3
  have n4 := PySem.W.mg_none_of X G z4
  have n5 := PySem.W.mg_none_of X G z5
  have n6 := PySem.W.mg_none_of X G z6
  have n7 := PySem.W.mg_none_of X G z7
  have n8 := PySem.W.mg_none_of X G z8
  have low : Oor K mg l.prog "OutOfRange" C fI cc cda :=
    { gC := PySem.W.mg_of X G aC, cls := ⟨nm, qn, N0, bs, _, sn, sub, ab, col, dd, m0, m1, m2, m3, m5, xL, by rfl⟩, sa := sa, ga := ga, gg := gg, noN := gn, iC := iC, tC := tI, kC := kC, exC := eC, veC := vC, tyC := tC, hdC := hC, me := mC, up := up, made := xM, op := op,
      mgS := PySem.W.mg_none_of X G nS, top := lt, cell := ⟨_, _, _, lc⟩, code := ⟨_, _, _, _, _, _, ld, lv, lf⟩, fn := ⟨_, _, _, _, _, _, _, _, _, _, _, _, _, _, _, _, _, _, _, _, _, _, _, _, _, lI, cI, by decide +kernel, rfl⟩ }
  have exC := PySem.W.exm_ref eC hC tC sC
  have M0 : Names mg := ⟨n0, n1, n2, n3⟩
  have MG : NamesG mg := ⟨M0, n4, n5, n6⟩
  have T : TopG mg := ⟨⟨_, PySem.W.mg_of X G cbl⟩, ⟨_, PySem.W.mg_of X G cmo⟩, ⟨_, PySem.W.mg_of X G cle⟩, ⟨_, PySem.W.mg_of X G cby⟩⟩
  have CG : ClsG K Cd := ⟨clCd, nCd_stored, nCd_waiting, nCd_cuts, nCd_cut_after, nCd_torn⟩
  have N : OwnE K mg "PowerCut" Cp := ⟨PySem.W.mg_of X G cPg, cPx, cPk, cPb, cPt⟩
  have kit : ∀ {D : Addr} {b : Bool}, typeIn K (.ref D) = some (.type "type") → isClsIn K D = true → subIn K (.ref Cp) (.ref D) = some b → PySem.W.kitOne K (.ref Cp) (.ref D) = some b := fun {D b} ht hi h => by
    by_cases e : Cp = D
    · subst e
      rw [cPP] at h
      cases h
      unfold PySem.W.kitOne
      rw [if_pos (beq_self_eq_true _)]
    · unfold PySem.W.kitOne
      have ne : ¬ ((Value.ref Cp == Value.ref D) = true) := fun z => e (Value.ref.inj (beq_iff_eq.mp z))
      rw [if_neg ne]
      show (if ((PySem.W.clsIn K D).isSome && typeIn K (.ref D) == some (.type "type")) = true then subIn K (.ref Cp) (.ref D) else none) = some b
      have hi' : (PySem.W.clsIn K D).isSome = true := hi
      rw [if_pos (by rw [ht, hi'] <;> rfl), h]
  have errk : ErrK K mg C Cp B := { gC := PySem.W.mg_of X G aC, gP := PySem.W.mg_of X G cPg, gB := PySem.W.mg_of X G aB, N := ⟨cPga, cPgg, cPb, cPh, cPx2, cPs, cPn, cPm⟩, ePP := PySem.W.exm_ref cPb cPh cPt cPP, eCP := PySem.W.exm_ref cPb cPh cPt cCP, eCC := exC, kB := kit cBt cBi cPB, kC := kit tC cCi cPC, isi := n8 }
  have e := hfa.symm.trans (PySem.W.mg_of X G aLw)
  cases e
  refine ⟨_, fun s v => .of_eq rfl, fun base _ _ => ok_law (Cd := Cd) (C := C) (Cp := Cp) FLw ?_⟩
  have GC : FnOk l.prog w K mg base (L2.CX l.prog w) 3 fCw _ ["self", "torn"] (spCutP Cd C) := ok_cutP FCw CG low MG T FCt mCt bCt
  have GM : FnOk l.prog w K mg base (L2.CX l.prog w) 4 fMe _ ["self"] (spMeet Cd Cp) := ok_meet FMe CG low N MG T FCw hCw bCw FCt mCt bCt
  have GF : FnOk l.prog w K mg base (L2.CX l.prog w) 5 fFl _ ["self"] (spFlush Cd Cp) := ok_flush FFl CG GM hMe bMe
  have GW : FnOk l.prog w K mg base (L2.CX l.prog w) 5 fWr _ ["self", "at", "block"] (spWriteM K Cd C Cp) := ok_writeM FWr CG low MG T GM hMe bMe FPl hPl bPl
  have GR : FnOk l.prog w K mg base (L2.CX l.prog w) 3 fRe _ ["self", "at"] (spReadM Cd C) := ok_readM FRe CG low MG FPl hPl bPl
  have GI : FnOk l.prog w K mg base (L2.CX l.prog w) 2 fIn _ ["self", "blocks"] (spInitD Cd C) := ok_initD FIn CG low MG T
  have GS : FnOk l.prog w K mg base (L2.CX l.prog w) 3 fSc _ ["self", "many", "torn"] (spSchedM Cd C) := ok_schedM FSc CG low MG T (PySem.W.mg_of X G ccm) FCt mCt bCt
  have GO : FnOk l.prog w K mg base (L2.CX l.prog w) 6 fLr _ ["disk", "at", "block"] (spDoR K Cd C Cp) := ok_doR FLr CG GW hWr bWr GF hFl bFl
  exact
    { D := ⟨_, _, ok_draw FDr M0, mDr, kDr, bDr⟩, G := ⟨_, _, ok_digits FDig M0 FCell mCell bCell, mDig, kDig, bDig⟩, T := ⟨_, _, ok_ltorn FLt MG FDr mDr bDr, mLt, kLt, bLt⟩,
      S := ⟨_, _, ok_sch FLs CG low exC GS hSc bSc, mLs, kLs, bLs⟩, L := ⟨_, _, ok_do FLc low errk GO mLr kLr bLr, mLc, kLc, bLc⟩,
      cls := CG, mD := mgCd, I := ⟨_, _, fn_calm GI fun _ _ _ _ h => h, MIn, bIn⟩, Cw := ⟨_, _, fn_calm GC fun _ _ _ _ h => h, hCw, bCw⟩, Re := ⟨_, _, fn_calm GR fun _ _ _ _ h => h, hRe, bRe⟩,
      Pc := ⟨_, _, ok_pend FPc CG MG, hPc, bPc⟩, Cu := ⟨_, _, ok_cuts FCu CG, hCu, bCu⟩, names := MG, min := n7 }
end LB

open PySem PySem.W PyProof.Rows
set_option maxRecDepth 100000 in
set_option maxHeartbeats 0 in
theorem PySem.Challenge.cw_asforetold_k42_cut_on_schedule_holds : PySem.Challenge.rw_asforetold_k42_cut_on_schedule.Holds := by
  w_on; o_law; k_head; (case hw => w_witness2)
  k_fill
  refine LB.walk_free (l := PySem.Challenge.rw_asforetold_k42_cut_on_schedule) (n := 63) (k := 9) (x := "script") (CX := L2.CX0) (sp := LB.spLaw) rfl (by decide) rfl ⟨rfl, by decide, by decide⟩ (fun w h Y => PySem.W.kIn_of Y) ?F (fun K H a ns hl _ hS => ⟨a, ns, rfl, hS, fun _ => rfl⟩) fun _ _ _ _ z => z
  case F =>
    intro w mg fa h KX G hmg
    refine' LB.all_mk KX G hmg ?aCell ?lCell ?cCell ?kCell ?aDig ?lDig ?cDig ?kDig ?aDr ?lDr ?cDr ?kDr ?aCt ?lCt ?cCt ?kCt ?aLt ?lLt ?cLt ?kLt ?aLs ?lLs ?cLs ?kLs ?aLr ?lLr ?cLr ?kLr ?aLc ?lLc ?cLc ?kLc ?aLw ?lLw ?cLw ?kLw ?aCd ?pgCd ?hdCd ?poCd ?saCd ?mkCd ?kpCd ?nCd_stored ?nCd_waiting ?nCd_cuts ?nCd_cut_after ?nCd_torn ?aIn ?lIn ?cIn ?kIn ?iIn ?aSz ?lSz ?cSz ?kSz ?iSz ?aRe ?lRe ?cRe ?kRe ?iRe ?aWr ?lWr ?cWr ?kWr ?iWr ?aFl ?lFl ?cFl ?kFl ?iFl ?aPc ?lPc ?cPc ?kPc ?iPc ?aCu ?lCu ?cCu ?kCu ?iCu ?aCw ?lCw ?cCw ?kCw ?iCw ?aSc ?lSc ?cSc ?kSc ?iSc ?aPl ?lPl ?cPl ?kPl ?iPl ?aMe ?lMe ?cMe ?kMe ?iMe ?z0 ?z1 ?z2 ?z3 ?z4 ?z5 ?z6 ?z7 ?z8 ?aC ?aB ?xL ?sa ?ga ?gg ?gn ?iC ?tI ?kC ?eC ?vC ?tC ?hC ?mC ?up ?xM ?op ?nS ?lI ?cI ?lc ?ld ?lv ?lf ?lt ?sC ?cbl ?cmo ?cle ?cby ?ccm ?cPg ?cPx ?cPk ?cPb ?cPt ?cPga ?cPgg ?cPh ?cPx2 ?cPs ?cPn ?cPm ?cPP ?cCP ?cPC ?cPB ?cBt ?cBi ?cCi
    (case aCell => k_is)
    (case lCell => k_is)
    (case cCell => k_is)
    (case kCell => k_is)
    (case aDig => k_is)
    (case lDig => k_is)
    (case cDig => k_is)
    (case kDig => k_is)
    (case aDr => k_is)
    (case lDr => k_is)
    (case cDr => k_is)
    (case kDr => k_is)
    (case aCt => k_is)
    (case lCt => k_is)
    (case cCt => k_is)
    (case kCt => k_is)
    (case aLt => k_is)
    (case lLt => k_is)
    (case cLt => k_is)
    (case kLt => k_is)
    (case aLs => k_is)
    (case lLs => k_is)
    (case cLs => k_is)
    (case kLs => k_is)
    (case aLr => k_is)
    (case lLr => k_is)
    (case cLr => k_is)
    (case kLr => k_is)
    (case aLc => k_is)
    (case lLc => k_is)
    (case cLc => k_is)
    (case kLc => k_is)
    (case aLw => k_is)
    (case lLw => k_is)
    (case cLw => k_is)
    (case kLw => k_is)
    (case aCd => k_is)
    (case pgCd => k_is)
    (case hdCd => k_is)
    (case poCd => k_is)
    (case saCd => k_is)
    (case mkCd => k_is)
    (case kpCd => k_is)
    (case nCd_stored => k_is)
    (case nCd_waiting => k_is)
    (case nCd_cuts => k_is)
    (case nCd_cut_after => k_is)
    (case nCd_torn => k_is)
    (case aIn => k_is)
    (case lIn => k_is)
    (case cIn => k_is)
    (case kIn => k_is)
    (case iIn => k_is)
    (case aSz => k_is)
    (case lSz => k_is)
    (case cSz => k_is)
    (case kSz => k_is)
    (case iSz => k_is)
    (case aRe => k_is)
    (case lRe => k_is)
    (case cRe => k_is)
    (case kRe => k_is)
    (case iRe => k_is)
    (case aWr => k_is)
    (case lWr => k_is)
    (case cWr => k_is)
    (case kWr => k_is)
    (case iWr => k_is)
    (case aFl => k_is)
    (case lFl => k_is)
    (case cFl => k_is)
    (case kFl => k_is)
    (case iFl => k_is)
    (case aPc => k_is)
    (case lPc => k_is)
    (case cPc => k_is)
    (case kPc => k_is)
    (case iPc => k_is)
    (case aCu => k_is)
    (case lCu => k_is)
    (case cCu => k_is)
    (case kCu => k_is)
    (case iCu => k_is)
    (case aCw => k_is)
    (case lCw => k_is)
    (case cCw => k_is)
    (case kCw => k_is)
    (case iCw => k_is)
    (case aSc => k_is)
    (case lSc => k_is)
    (case cSc => k_is)
    (case kSc => k_is)
    (case iSc => k_is)
    (case aPl => k_is)
    (case lPl => k_is)
    (case cPl => k_is)
    (case kPl => k_is)
    (case iPl => k_is)
    (case aMe => k_is)
    (case lMe => k_is)
    (case cMe => k_is)
    (case kMe => k_is)
    (case iMe => k_is)
    (case z0 => k_is)
    (case z1 => k_is)
    (case z2 => k_is)
    (case z3 => k_is)
    (case z4 => k_is)
    (case z5 => k_is)
    (case z6 => k_is)
    (case z7 => k_is)
    (case z8 => k_is)
    (case aC => k_is)
    (case aB => k_is)
    (case xL => k_is)
    (case sa => k_is)
    (case ga => k_is)
    (case gg => k_is)
    (case gn => k_is)
    (case iC => k_is)
    (case tI => k_is)
    (case kC => k_is)
    (case eC => k_is)
    (case vC => k_is)
    (case tC => k_is)
    (case hC => k_is)
    (case mC => k_is)
    (case up => ks_is)
    (case xM => kx_is)
    (case op => k_is)
    (case nS => k_is)
    (case lI => k_is)
    (case cI => k_is)
    (case lc => k_is)
    (case ld => k_is)
    (case lv => rfl)
    (case lf => (first | rfl | decide +kernel | kernel_rfl))
    (case lt => (first | rfl | decide +kernel | kernel_rfl))
    (case sC => k_is)
    (case cbl => k_is)
    (case cmo => k_is)
    (case cle => k_is)
    (case cby => k_is)
    (case ccm => k_is)
    (case cPg => k_is)
    (case cPx => k_exc)
    (case cPk => k_is)
    (case cPb => k_is)
    (case cPt => k_is)
    (case cPga => k_is)
    (case cPgg => k_is)
    (case cPh => k_is)
    (case cPx2 => k_is)
    (case cPs => k_is)
    (case cPn => k_is)
    (case cPm => k_is)
    (case cPP => k_is)
    (case cCP => k_is)
    (case cPC => k_is)
    (case cPB => k_is)
    (case cBt => k_is)
    (case cBi => k_is)
    (case cCi => k_is)

