import PyProof.Rows.All
import Wide.All
import OpenK.AllK
import Wide.FinOn
import HandS.ForMost
import HandS.Iter
import HandS.IsInst
import HandS.Style
import HandS.Property
import HandS.TupAny
import KE.GoesEnum
import KE.KDictDisplayH
import HandS.TupMul
import KE.KeyNested
import KE.KDictKeyed
import HandS.SortInts
import KE.DataCmp
import KE.SortData
import KE.KDictSum
import KE.KDictCopyH
import HandS.TupSets
import HandS.SetBool
import HandS.Strs
import HandS.SetFor
import HandS.Zip
import HandS.Deep
import HandS.SetKeys
import HandS.More
import PySem.Challenge.RW_whichstand_k04_whole_reaches
set_option Elab.async false
set_option linter.all false
set_option maxRecDepth 100000
set_option maxHeartbeats 4000000
namespace EnT
open PySem PySem.Spec PyProof.Rows L2
theorem made (v : Value) (ob : Obj) (G : Heap → Prop) (B : Begins v ob G) :
    Meets (Builtin.«enumerate.__new__» ⟨[.type "enumerate", v], []⟩) (fun _ R s => G s.heap ∧
      R (.ok (.ret (.ref (s.heap.push ob).objs.size))) { s with heap := (s.heap.push ob).push { cls := .type "enumerate", data := .fields #[.none, .bool false, .ref s.heap.objs.size, rawInt 0, .none, .none] } }) := by
  refine .of_wp ?_
  intro pr w' A' R' sh hh
  obtain ⟨hp, gs, dr, tk, os⟩ := sh
  obtain ⟨g1, hh⟩ := hh
  have hsub' := sub_enumerate
  have it : ∀ {B1 : Around} {E1 : Value → Shared → Prop} {Q1 : Value → Shared → Prop}, Q1 (.ref hp.objs.size) ⟨hp.push ob, gs, dr, tk, os⟩ → wpAny (model pr w') B1 (pyIter v) Q1 E1 ⟨hp, gs, dr, tk, os⟩ := by
    intro B1 E1 Q1 q
    exact B.iter pr w' _ _ ⟨hp, gs, dr, tk, os⟩ _ g1 q
  wp_walk using it
  refine wpAny_stack_any (fun _ => wpAny_pure ?_)
  split
  · rename_i cc _ _ _ _ _
    cases (cc == Value.type "enumerate") <;> (wp_walk using it; exact ⟨_, rfl, hh⟩)
  · (wp_walk using it; exact ⟨_, rfl, hh⟩)

section
variable {prog : Program} {w : World} {A : Around} {E : Value → Shared → Prop} {s : Shared}
theorem begin1 {t : Addr} {its : Array Value} {Q : Value → Shared → Prop} (g1 : s.heap.IsTuple t its)
    (q : ∀ h', IsEnum h' (s.heap.objs.size + 1) s.heap.objs.size 0 .none → h'.IsTupleIter s.heap.objs.size t 0 → (∀ b o, s.heap.get? b = some o → h'.get? b = some o) →
      Q (.ref (s.heap.objs.size + 1)) { s with heap := h' }) : wpAny (model prog w) A (call (.type "enumerate") [.ref t]) Q E s := by
  refine callType_new F.called_enumerate (by decide) (F.typeCall_enumerate_1 _) (F.newCall_enumerate_1 _) (fun ob => F.args_object_init_2 ob _) F.entry_enumerate_new (made _ _ _ (begins_tuple t its)) ⟨g1, ?_⟩
  generalize eo : ({ cls := .type "tuple_iterator", data := .fields #[.ref t, .int 0 0] } : Obj) = io
  have fr : io.isFreed = false := by rw [← eo]; rfl
  have sz : (s.heap.push io).objs.size = s.heap.objs.size + 1 := Heap.size_push ..
  have en : IsEnum ((s.heap.push io).push { cls := .type "enumerate", data := .fields #[.none, .bool false, .ref s.heap.objs.size, rawInt 0, .none, .none] }) (s.heap.objs.size + 1) s.heap.objs.size 0 .none := by
    have z := Heap.get?_push_size (s.heap.push io) (o := { cls := .type "enumerate", data := .fields #[.none, .bool false, .ref s.heap.objs.size, rawInt 0, .none, .none] }) rfl
    rw [sz] at z
    exact z
  show _ ∧ _
  rw [sz]
  refine ⟨⟨_, en, rfl⟩, q _ en ?_ (fun b o e => Heap.get?_push_of_some _ (Heap.get?_push_of_some _ e))⟩
  exact ⟨io, Heap.get?_push_of_some _ (Heap.get?_push_size _ fr), by rw [← eo], by rw [← eo] <;> rfl⟩
end
/-- the tuple at a, each item in a new pair behind its place -/
def ItT (K : PySem.W.Frag) (a : Addr) : It where
  go i H := ∃ ys y, SqT K H a ys ∧ ys[i]? = some y
  yld i H v H' := ∃ T y, v = .ref T ∧ H T = none ∧ H' = upd H T (.tup [.int (i : Nat), y]) ∧ ∀ ys, SqT K H a ys → ys[i]? = some y
  stop i H := ∃ ys : List V, SqT K H a ys ∧ ys.length ≤ i
theorem cls_ne {h : Heap} {a b : Addr} {o u : Obj} (x : h.get? a = some o) (y : h.get? b = some u) (n : o.cls ≠ u.cls) : a ≠ b := by
  intro z
  rw [z, y] at x
  exact n (congrArg Obj.cls (Option.some.inj x)).symm
theorem turnT {P : Program} {w : World} {K : PySem.W.Frag} {elts : List Expr} {kk : Nat} {tpos : Pos} (a e it : Addr) :
    Turn P w K (.Tuple elts kk tpos) (ItT K a) [e, it] e (fun i h => (∃ old, IsEnum h e it ((i : Nat) : Int) old) ∧ h.IsTupleIter it a i ∧ e ≠ it) where
  mem := List.mem_cons_self
  obj := by
    rintro i h ⟨⟨old, he⟩, ⟨o, ho, hc, hd⟩, _⟩ b hb
    rcases List.mem_cons.mp hb with z | z
    · exact z ▸ ⟨_, he, fun v q => nomatch q⟩
    · rw [List.mem_singleton.mp z]
      exact ⟨o, ho, fun v q => by rw [hd] at q; cases q⟩
  keep := by
    rintro i h h' ⟨⟨old, he⟩, hi, hne⟩ k
    exact ⟨⟨old, k e List.mem_cons_self _ he⟩, hi.at (fun o q => k it (by simp) o q), hne⟩
  item := by
    rintro X rfl rfl rfl hcalm i pins s σ H E I hf ⟨⟨old, he⟩, hit, hne⟩ ⟨ys, y, hq, hy⟩
    obtain ⟨its, rv, tp, -⟩ := I.tuple hq
    have tp' : s.heap.IsTuple a its.toArray := tp
    obtain ⟨u, hu, ru⟩ := rv.get hy
    have hlt : i < its.toArray.size := by
      have := (List.getElem?_eq_some_iff.mp hu).1
      simpa using this
    obtain ⟨oa, ga, ca, -⟩ := id tp'
    obtain ⟨oi, gi, ci, -⟩ := id hit
    have a_it : a ≠ it := cls_ne ga gi (by rw [ca, ci]; decide)
    have e_a : e ≠ a := cls_ne he ga (by rw [ca]; show Value.type "enumerate" ≠ Value.type "tuple"; decide)
    have sz_e : e < s.heap.objs.size := Heap.lt_size he
    have sz_i : it < s.heap.objs.size := Heap.lt_size gi
    have D : Draws X.prog X.w X.A.in1 it [it, a] its.toArray.size (fun j v => its.toArray[j]? = some v) (fun j h => h.IsTupleIter it a j ∧ h.IsTuple a its.toArray) := Draws.tuple (A := X.A.in1) (show X.A.in1.handled = none from I.ok.hd hcalm) it a a_it its.toArray
    refine wpAny_pyNext_enum_itemD D he ⟨hit, tp'⟩ hlt hne (by simp [hne, e_a]) ?_
    intro x h' tk px ho hst hT hsz hk
    have ex : x = u := by
      have z : its[i]? = some x := by simpa using px
      rw [hu] at z
      exact (Option.some.inj z).symm
    subst ex
    refine ⟨_, rfl, wpAny_letOwnedTupleGo_enum (s := { s with heap := h', toks := tk + 1 }) ho ?_⟩
    intro h2 he2 sb
    have T2 : h2.get? s.heap.objs.size = some { cls := .type "tuple", data := .seq #[.int i tk, x] } := (sb.2 _ (Nat.ne_of_gt sz_e)).trans hT
    have new : ObjOk X.prog X.w (upd H s.heap.objs.size (.tup [.int (i : Nat), y])) h2 s.heap.objs.size (.tup [.int (i : Nat), y]) := by
      refine ⟨by show 2 ≤ sizeLine; decide, [.int i tk, x], .cons ⟨tk, rfl⟩ (.cons ru .nil), ?_⟩
      exact ⟨_, T2, rfl, _, rfl⟩
    have I1 := I.turnedNew (t' := tk + 1) (ch := [e, it]) (fun b ob hb q => by
      have b1 : b ≠ e := fun z => hb (by simp [z])
      have b2 : b ≠ it := fun z => hb (by simp [z])
      exact (sb.2 b b1).trans (hk b ob b1 b2 q)) hf (Nat.le_refl _) new
    refine ⟨.ref s.heap.objs.size, _, I1, rfl, ?_, ?_, ?_⟩
    · exact ⟨_, y, rfl, I.hok.fresh (Nat.le_refl _), rfl, fun zs hz => by rw [I.tuple_inj hz hq]; exact hy⟩
    · have e1 : ((i + 1 : Nat) : Int) = (i : Int) + 1 := by omega
      exact ⟨⟨x, by rw [e1]; exact he2⟩, hst.1.at (fun o q => (sb.2 it (Ne.symm hne)).trans q), hne⟩
    · intro b hb
      have lt : b < s.heap.objs.size := by
        rcases List.mem_cons.mp hb with z | z
        · rw [z]; exact sz_e
        · rw [List.mem_singleton.mp z]; exact sz_i
      rw [upd_ne (Nat.ne_of_lt lt)]
      exact (hf b hb).1
  done := by
    rintro X rfl rfl rfl hcalm i pins s σ H E I hf ⟨⟨old, he⟩, hit, hne⟩ ⟨ys, hq, hy⟩
    obtain ⟨its, rv, tp, -⟩ := I.tuple hq
    have tp' : s.heap.IsTuple a its.toArray := tp
    obtain ⟨f0, f1, f2, f3, f4, f5⟩ := hf it (by simp)
    have hle : its.toArray[i]? = none := by
      have := rv.length
      simp
      omega
    obtain ⟨oi, gi, ci, di⟩ := id hit
    have hT : s.TypeIs (.ref e) "enumerate" := ⟨_, he, rfl⟩
    unfold pyNext
    refine wpAny_bind (wpAny_attempt (wpAny_callSpecial?_slot (name := Str.ofString "__next__") hT F.slot_enumerate_next (wpAny_call_entry F.slot_enumerate_next hT F.entry_enumerate_next ?_ (F.args_enumerate_next_1 _))))
    show wpAny _ _ (field (.ref e) 2 >>= _) _ _ _
    refine wpAny_bind (wpAny_field he rfl (x := .ref it) rfl (wpAny_bind (wpAny_nextOf_tuple_end (I.ok.hd hcalm) hit tp' hle ?_)))
    rintro h' x eb ⟨o, ho, hc⟩
    refine wpAny_bind (wpAny_isInstance (T := "StopIteration") (b := true) ⟨o, ho, hc⟩ isSubtype_stop (wpAny_pure ?_))
    exact ⟨rfl, I.turned (t' := s.toks) (fun b o hb q => eb b o hb q) f0 f1 f3 f4 f5⟩
  self := by
    rintro A i s Q E ⟨⟨_, he⟩, _⟩ q
    exact wpAny_pyIter_enum he q
def iEnT (K : PySem.W.Frag) (ta : TA) : TI := fun σ H R => ta σ H fun vs H1 => ∃ a ys, vs = [.ref a] ∧ SqT K H1 a ys ∧ R (ItT K a) H1
theorem pi_enumT {X : Cx} {e : Expr} {ta : TA} {p pos tpos : Pos} {elts : List Expr} {kk : Nat} (hg : Gl X "enumerate") (hm : X.mg "enumerate" = none) (ha : PA X [e] ta) (hs : starEach [e] X.env = [(false, eval e X.env)] := by rfl) :
    PI X (.Tuple elts kk tpos) (.Call (.Name "enumerate" p) [e] [] pos) (iEnT X.K ta) := by
  constructor
  intro pins s σ H R I h
  refine Call_ (ld_blt I hg hm boot_enumerate (PyProof.Rows.callWith_type1 (thn (ha.run pos pins s σ H _ I h) ?_) hs rfl))
  rintro us s1 ⟨vs, H1, I1, r1, a, ys, rfl, hq, q⟩
  obtain ⟨u, rfl⟩ : ∃ u, us = [u] := by
    cases r1 with
    | cons r rr => cases rr; exact ⟨_, rfl⟩
  obtain rfl : u = Value.ref a := by
    cases r1 with
    | cons r rr => exact r
  obtain ⟨its, rv, tp, -⟩ := I1.tuple hq
  refine begin1 (show s1.heap.IsTuple a its.toArray from tp) ?_
  intro h' he hit hk
  refine wpAny_pyIter_enum he ?_
  have I2 : Inv X pins σ H1 { s1 with heap := h' } := I1.kept (t' := s1.toks) hk
  refine ⟨s1.heap.objs.size + 1, [s1.heap.objs.size + 1, s1.heap.objs.size], _, _, H1, rfl, I2, turnT a _ _, ⟨⟨.none, he⟩, hit, Nat.succ_ne_self _⟩, ?_, q⟩
  intro b hb
  have hle : s1.heap.objs.size ≤ b := by
    rcases List.mem_cons.mp hb with z | z
    · rw [z]; exact Nat.le_succ _
    · rw [List.mem_singleton.mp z]; exact Nat.le_refl _
  exact I1.fpOk hle (I1.hok.fresh hle)
/-- the loop over it -/
theorem for_enT {K : PySem.W.Frag} {a : Addr} {xs : List V} {g : TG} {tb : TS} {D : Ends} {σ : L2.St} {H : Hp} (Pv : Nat → L2.St → Hp → Prop) (h0 : Pv 0 σ H) (hl : ∀ i σ H, i ≤ xs.length → Pv i σ H → SqT K H a xs)
    (hs : ∀ i x T σ H, xs[i]? = some x → Pv i σ H → H T = none → g (.ref T) σ (upd H T (.tup [.int (i : Nat), x])) fun σ1 H1 => tb { D with nx := Pv (i + 1), ct := Pv (i + 1), bk := D.nx } σ1 H1)
    (hd : ∀ σ H, Pv xs.length σ H → D.nx σ H) :
    ∃ W : Nat → Nat → L2.St → Hp → Prop, (∃ m, W 0 m σ H) ∧ ∀ i m σ H, W i m σ H →
      ((ItT K a).stop i H ∧ D.nx σ H) ∨ ((ItT K a).go i H ∧ ∃ N : L2.St → Hp → Prop, (∀ σ' H', N σ' H' → ∃ m', m' < m ∧ W (i + 1) m' σ' H') ∧ ∀ x H', (ItT K a).yld i H x H' → g x σ H' fun σ2 H2 => tb { D with nx := N, ct := N, bk := D.nx } σ2 H2) := by
  refine ⟨fun i m σ H => m + i = xs.length ∧ Pv i σ H, ⟨xs.length, rfl, h0⟩, ?_⟩
  intro i m σ H
  rintro ⟨em, pv⟩
  have q := hl i σ H (by omega) pv
  rcases Nat.lt_or_ge i xs.length with lt | ge
  · right
    refine ⟨⟨xs, _, q, List.getElem?_eq_getElem lt⟩, Pv (i + 1), fun σ1 H1 p1 => ⟨m - 1, by omega, by omega, p1⟩, ?_⟩
    rintro x H1 ⟨T, y, rfl, fT, rfl, hy⟩
    exact hs i y T σ H (hy xs q) pv fT
  · left
    have ei : i = xs.length := by omega
    subst ei
    exact ⟨⟨xs, q, Nat.le_refl _⟩, hd σ H pv⟩
end EnT
namespace WS
open PySem PySem.Spec PyProof.Rows L2
/-- a def of the module: what it promises, where it stands -/
structure DefK (P : Program) (w : World) (K : PySem.W.Frag) (mg : Str → Option Value) (base : Heap) (CX : CXT) (k : Nat) (x : Str) (ps : List Str) (sp : Sp) : Prop where
  ex : ∃ f fd, FnOk P w K mg base CX k f fd ps sp ∧ mg x = some (.ref f) ∧ PySem.W.keepIn K (.ref f) = true ∧ Binds K fd ps []
theorem DefK.imp {P : Program} {w : World} {K : PySem.W.Frag} {mg : Str → Option Value} {base : Heap} {CX : CXT} {k : Nat} {x : Str} {ps : List Str} {sp sp' : Sp} (G : DefK P w K mg base CX k x ps sp)
    (h : ∀ vs H Q E, sp' vs H Q E → sp vs H Q E) : DefK P w K mg base CX k x ps sp' := by
  obtain ⟨f, fd, a, b, c, d⟩ := G.ex
  exact ⟨f, fd, a.imp h, b, c, d⟩
theorem DefK.mono {P : Program} {w : World} {K : PySem.W.Frag} {mg : Str → Option Value} {base : Heap} {CX : CXT} {k k' : Nat} {x : Str} {ps : List Str} {sp : Sp} (G : DefK P w K mg base CX k x ps sp) (h : k ≤ k') : DefK P w K mg base CX k' x ps sp := by
  obtain ⟨f, fd, a, b, c, d⟩ := G.ex
  exact ⟨f, fd, a.mono h, b, c, d⟩
section
variable {X : Cx} {k : Nat} {x : Str} {ps : List Str} {sp : Sp} {p pos : Pos} {e : Expr} {es : List Expr} {t : TA} {ta : TE}
theorem pe_def (G : DefK X.prog X.w X.K X.mg X.base CX0 k x ps sp) (hr : Room k X.A) (hg : Gl X x) (ha : PA X (e :: es) t) (hdb : (x == ("__debug__" : Str)) = false := by decide)
    (he : starEach (e :: es) X.env = (false, eval e X.env) :: starEach es X.env := by rfl) (hpl : (backTo pos (starEach es X.env)).any (·.1) = false := by rfl) :
    PE X (.Call (.Name x p) (e :: es) [] pos) (tCall sp [] E0 t) := by
  obtain ⟨f, fd, a, b, c, d⟩ := G.ex
  exact pe_call a hr hg b c d .nil pass0 ha hdb he hpl
/-- a statement, then the rest, behind a word of one's own -/
def tMid (t u : TS) : TS := fun D σ H => ∃ W : L2.St → Hp → Prop, t { D with nx := W } σ H ∧ ∀ σ1 H1, W σ1 H1 → u D σ1 H1
theorem pss_mid {st : Stmt} {more : List Stmt} {t u : TS} (h1 : PS X st t) (h2 : PSs X more u) : PSs X (st :: more) (tMid t u) := by
  constructor
  intro pins s σ H D I
  rintro ⟨W, a, b⟩
  refine wpAny_execs_cons (thn (h1.run pins s σ H { D with nx := W } I a) ?_)
  intro f s1 q
  cases f
  case next =>
    obtain ⟨σ1, H1, I1, z⟩ := q
    exact h2.run pins s1 σ1 H1 D I1 (b _ _ z)
  all_goals exact q
theorem pe_gI {i : Int} {tk : Tok} (hg : Gl X x) (hm : X.mg x = some (.int i tk)) (hd : (x == ("__debug__" : Str)) = false := by decide) : PE X (.Name x pos) (tC (.int i)) := pe_glob hg hm ⟨tk, rfl⟩ hd
theorem pe_gR {a : Addr} (hg : Gl X x) (hm : X.mg x = some (.ref a)) (hd : (x == ("__debug__" : Str)) = false := by decide) : PE X (.Name x pos) (tC (.ref a)) := pe_glob hg hm rfl hd
/-- a property of the class at C -/
structure PropK (P : Program) (w : World) (K : PySem.W.Frag) (mg : Str → Option Value) (base : Heap) (k : Nat) (C : Addr) (f : Str) (sp : Sp) : Prop where
  cl : Cls K C
  ex : ∃ pa g fd, PropOf K C f pa g ∧ FnOk P w K mg base CX0 k g fd ["self"] sp ∧ Binds K fd ["self"] []
theorem pe_propM {C : Addr} {f : Str} (G : PropK X.prog X.w X.K X.mg X.base k C f sp) (hr : Room (k + 1) X.A) (he : PE X e ta) (hab : attributeBase e f X.env (eval e X.env) = eval e X.env := by rfl) :
    PE X (.Attribute e f pos) (tProp C sp [] E0 ta) := by
  obtain ⟨pa, g, fd, a, b, c⟩ := G.ex
  exact pe_prop he G.cl a b hr c .nil pass0 hab
/-- an instance made -/
structure MkK (P : Program) (w : World) (K : PySem.W.Frag) (mg : Str → Option Value) (base : Heap) (CX : CXT) (k : Nat) (C : Addr) (x : Str) (ps : List Str) (sp : Sp) : Prop where
  gl : mg x = some (.ref C)
  ex : ∃ f fd, Mk K C f ∧ FnOk P w K mg base CX k f fd ps sp ∧ Binds K fd ps []
theorem pe_mkM {C : Addr} (G : MkK X.prog X.w X.K X.mg X.base CX0 k C x ps sp) (hr : Room (k + 1) X.A) (hg : Gl X x) (ha : PA X (e :: es) t) (hdb : (x == ("__debug__" : Str)) = false := by decide)
    (he : starEach (e :: es) X.env = (false, eval e X.env) :: starEach es X.env := by rfl) (hpl : (backTo pos (starEach es X.env)).any (·.1) = false := by rfl) :
    PE X (.Call (.Name x p) (e :: es) [] pos) (tMake C sp [] E0 t) := by
  obtain ⟨f, fd, a, b, c⟩ := G.ex
  exact pe_make a b hr hg G.gl c .nil pass0 ha hdb he hpl
/-- len of an instance -/
structure LenK (P : Program) (w : World) (K : PySem.W.Frag) (mg : Str → Option Value) (base : Heap) (k : Nat) (C : Addr) (sp : Sp) : Prop where
  ex : ∃ f fd, PySem.W.findIn K (.ref C) "__len__" = some (some (.ref f)) ∧ PySem.W.isFn K (.ref f) = true ∧ FnOk P w K mg base CX0 k f fd ["self"] sp ∧ Binds K fd ["self"] []
def rLenO (C : Addr) (sp : Sp) : List V → Hp → VK → Prop := fun xs H Q => ∃ a dx fs, xs = [.ref a] ∧ H a = some (.ins C dx fs) ∧ sp [.ref a] H (fun v H' => ∃ n : Nat, v = .int n ∧ n < 2 ^ 63 ∧ Q (.int n) H') E0
theorem call_lenO {C : Addr} (G : LenK X.prog X.w X.K X.mg X.base k C sp) (hr : Room (k + 1) X.A) : CallR X (.builtin "len") (rLenO C sp) := by
  intro pins s σ H xs us Q I r hh
  obtain ⟨a, dx, fs, rfl, ea, q⟩ := hh
  obtain ⟨u, rfl⟩ : ∃ u, us = [u] := by
    cases r with
    | cons r rr => cases rr; exact ⟨_, rfl⟩
  obtain rfl : u = Value.ref a := by
    cases r with
    | cons r rr => exact r
  obtain ⟨f, fd, h1, h2, h3, h4⟩ := G.ex
  obtain ⟨mA, O, _, _, _, _⟩ := ins_get I.hok ea
  obtain ⟨od, J, _⟩ := O.look
  obtain ⟨m, F⟩ := I.fr
  refine PySem.W.len_K F I.mod.kin J h1 h2 ?_
  have hl : ([Value.ref a] ++ ([] : List Value)).length = (["self"] : List Str).length := rfl
  refine wpAny_call (codeAny_mono (h3.run X.A.in1 X.stack s H ⟨[.ref a], []⟩ [.ref a] [.ref a] _ E0 hr.in1 I.env0.in1 (h4 s [.ref a] I.kIn hl) (.cons rfl .nil) q) fun r s' hq => ?_)
  cases r with
  | error er => exact False.elim hq
  | ok fl =>
    cases fl with
    | ret u =>
      obtain ⟨v, H', I3, rv, n, rfl, hn, q3⟩ := I.after hq
      obtain ⟨t, rfl⟩ := rv
      refine ⟨⟨Int.natCast_nonneg n, by omega⟩, .int n, H', I3.tok _, ⟨_, rfl⟩, q3⟩
    | next => exact False.elim hq
    | brk => exact False.elim hq
    | cont => exact False.elim hq
theorem pe_lenO {C : Addr} (G : LenK X.prog X.w X.K X.mg X.base k C sp) (hr : Room (k + 1) X.A) (hg : Gl X "len") (hm : X.mg "len" = none) (he : PE X e ta)
    (hst : starEach [e] X.env = [(false, eval e X.env)] := by rfl) : PE X (.Call (.Name "len" p) [e] [] pos) (tCB (rLenO C sp) (tCons ta tNil)) :=
  pe_callB (call_lenO G hr) hg hm boot_len (pa_cons he pa_nil hst) (by decide) (by decide) hst (by rfl)
end
/-- the built-ins' names that the program has not taken for itself -/
structure Blt (mg : Str → Option Value) : Prop where
  n_set : mg "set" = none
  n_len : mg "len" = none
  n_isinstance : mg "isinstance" = none
  n_int : mg "int" = none
  n_bool : mg "bool" = none
  n_tuple : mg "tuple" = none
  n_list : mg "list" = none
  n_str : mg "str" = none
  n_range : mg "range" = none
  n_enumerate : mg "enumerate" = none
  n_max : mg "max" = none
  n_min : mg "min" = none
  n_all : mg "all" = none
  n_any : mg "any" = none
  n_sorted : mg "sorted" = none
  n_sum : mg "sum" = none
  n_zip : mg "zip" = none
/-! ### values of any kind, and their types -/
inductive AnyV (K : PySem.W.Frag) (H : Hp) : V → String → Prop where
  | non : AnyV K H .non "NoneType"
  | bl (b : Bool) : AnyV K H (.bl b) "bool"
  | int (i : Int) : AnyV K H (.int i) "int"
  | str (x : Str) : AnyV K H (.str x) "str"
  | lst {a : Addr} {xs : List V} (h : SqL K H a xs) : AnyV K H (.ref a) "list"
  | tup {a : Addr} {xs : List V} (h : SqT K H a xs) : AnyV K H (.ref a) "tuple"
  | dct {a : Addr} {kvs : List (Key × V)} (h : H a = some (.dK kvs)) : AnyV K H (.ref a) "dict"
theorem AnyV.ty {K : PySem.W.Frag} {H : Hp} {v : V} {t : String} (x : AnyV K H v t) : TyX K H v (.type t) := by
  cases x with
  | non => exact .base .non
  | bl b => exact .base (.bl b)
  | int i => exact .base (.int i)
  | str z => exact .base (.str z)
  | lst h =>
    rcases h with (h | ⟨o, h⟩) | ⟨o, its, n, h1, h2, _⟩
    · exact .base (.lst h)
    · exact .base (.frz h)
    · exact .kList h1 h2
  | tup h =>
    rcases h with (h | ⟨o, h⟩) | ⟨o, its, n, h1, h2, _⟩
    · exact .base (.tup h)
    · exact .fTuple h
    · exact .kTuple h1 h2
  | dct h => exact .base (.dK h)
theorem seqT {K : PySem.W.Frag} {H H' : Hp} {a : Addr} {xs : List V} (s : Same H H') (h : SqT K H a xs) : SqT K H' a xs := by
  rcases h with (h | ⟨o, h⟩) | h
  · exact .inl (.inl (s _ _ h))
  · exact .inl (.inr ⟨o, s _ _ h⟩)
  · exact .inr h
theorem AnyV.same {K : PySem.W.Frag} {H H' : Hp} {v : V} {t : String} (x : AnyV K H v t) (s : Same H H') : AnyV K H' v t := by
  cases x with
  | non => exact .non
  | bl b => exact .bl b
  | int i => exact .int i
  | str z => exact .str z
  | lst h => exact .lst (s.seq h)
  | tup h => exact .tup (seqT s h)
  | dct h => exact .dct (s _ _ h)
theorem same_new {H : Hp} {p : Addr} (h : H p = none) (o : HO) : Same H (upd H p o) := fun b u q => by rw [upd_ne (ne_of_none q h)]; exact q
/-- isinstance of such a value: its answer by the types' names -/
theorem kit_any {K : PySem.W.Frag} {t c : String} {b : Bool} (h : kitB t c = some b) : PySem.W.kitOne K (.type t) (.type c) = some b := kit_ty h
/-! ### the rules that speak of the written part, by its name -/
def rLenS (K : PySem.W.Frag) : List V → Hp → VK → Prop := fun xs H Q => ∃ p ys, xs = [.ref p] ∧ (SqL K H p ys ∨ SqT K H p ys) ∧ Q (.int ys.length) H
def rListOf (K : PySem.W.Frag) : List V → Hp → VK → Prop := fun xs H Q => ∃ p ys, xs = [.ref p] ∧ (SqL K H p ys ∨ SqT K H p ys) ∧ ∀ l, H l = none → Q (.ref l) (upd H l (.lst ys))
def rTupOf (K : PySem.W.Frag) : List V → Hp → VK → Prop := fun xs H Q => ∃ p ys, xs = [.ref p] ∧ ((SqL K H p ys ∧ ∀ l, H l = none → Q (.ref l) (upd H l (.tup ys))) ∨ (SqT K H p ys ∧ Q (.ref p) H))
def rInt1 : List V → Hp → VK → Prop := fun xs H Q => (∃ i, xs = [V.int i] ∧ Q (V.int i) H) ∨ ∃ k, xs = [V.bl k] ∧ Q (V.int (if k = true then 1 else 0)) H
section
variable {X : Cx} (K : PySem.W.Frag)
theorem k_len (e : X.K = K := by rfl) : CallR X (.builtin "len") (rLenS K) := by subst e; exact call_len_seq
theorem k_listOf (e : X.K = K := by rfl) : CallR X (.type "list") (rListOf K) := by subst e; exact call_list_of
theorem k_tupOf (e : X.K = K := by rfl) : CallR X (.type "tuple") (rTupOf K) := by subst e; exact call_tuple_of
theorem k_int1 : CallR X (.type "int") rInt1 := call_int1
theorem k_isi (e : X.K = K := by rfl) : CallR X (.builtin "isinstance") (rIsi K) := by subst e; exact call_isi
theorem k_isiT (e : X.K = K := by rfl) : CallR X (.builtin "isinstance") (rIsiT K) := by subst e; exact call_isiT
theorem k_ixL (e : X.K = K := by rfl) : IxR X (rIxL K) := by subst e; exact ix_list
theorem k_ixT (e : X.K = K := by rfl) : IxR X (rIxT K) := by subst e; exact ix_tup
theorem k_ixQ (e : X.K = K := by rfl) : IxR X (rIx K) := by subst e; exact ix_seq
theorem k_slL (e : X.K = K := by rfl) : SlR X (rSlL K) := by subst e; exact sl_list
theorem k_slT (e : X.K = K := by rfl) : SlR X (rSlA K) := by subst e; exact sl_tupA
theorem k_catT (e : X.K = K := by rfl) : OpR X (binaryOp .Add) (rCatA K) := by subst e; exact op_catA
theorem k_eqD (hu : X.A.units + 64 < cLine) (e : X.K = K := by rfl) : OpR X (compareOp .Eq) (rEqD K) := by subst e; exact op_eqD hu
theorem k_neD (hu : X.A.units + 64 < cLine) (e : X.K = K := by rfl) : OpR X (compareOp .NotEq) (rNeD K) := by subst e; exact op_neD hu
theorem k_in (e : X.K = K := by rfl) : OpR X (compareOp .In) (rIn K false) := by subst e; exact op_in_seq
theorem k_notIn (e : X.K = K := by rfl) : OpR X (compareOp .NotIn) (rIn K true) := by subst e; exact op_notIn_seq
theorem k_all (hc : X.calm = true) (e : X.K = K := by rfl) : CallR X (.builtin "all") (rAll K) := by subst e; exact cr_all hc
theorem k_any (hc : X.calm = true) (e : X.K = K := by rfl) : CallR X (.builtin "any") (rAny K) := by subst e; exact cr_any hc
theorem k_sum (hc : X.calm = true) (e : X.K = K := by rfl) : CallR X (.builtin "sum") (rSum K) := by subst e; exact cr_sum hc
theorem k_max (hc : X.calm = true) (e : X.K = K := by rfl) : CallR X (.builtin "max") (rMax K) := by subst e; exact cr_max hc
theorem k_min (hc : X.calm = true) (e : X.K = K := by rfl) : CallR X (.builtin "min") (rMin K) := by subst e; exact cr_min hc
variable {tg l : Expr} {tl : TE}
theorem k_pil (hl : PE X l tl) (e : X.K = K := by rfl) : PI X tg l (iList K tl) := by subst e; exact pi_list hl
theorem k_pit (hl : PE X l tl) (e : X.K = K := by rfl) : PI X tg l (iTup K tl) := by subst e; exact pi_tup hl
theorem k_tgs {es : List Expr} {k : Nat} {t : TGs} {n : Nat} {pos : Pos} (hc : X.calm = true) (h : PGs X es t) (hn : (assignEach es X.env).length = n := by rfl) (hst : (assignEach es X.env).findIdx? (·.1) = none := by rfl) (e : X.K = K := by rfl) :
    PG X (.Tuple es k pos) (gTup K n t) := by subst e; exact pg_tup hc h hn hst
end
end WS
namespace WS
open PySem L2
/-! ### data -/
mutual
theorem dp_mono {K : PySem.W.Frag} {H H' : Hp} (hL : ∀ a xs, SqL K H a xs → SqL K H' a xs) (hT : ∀ a xs, SqT K H a xs → SqT K H' a xs) : ∀ {v : V} {d : PyData}, Dp K H v d → Dp K H' v d
  | _, _, .non => .non
  | _, _, .bl b => .bl b
  | _, _, .int i => .int i
  | _, _, .str x => .str x
  | _, _, .lst s a => .lst (hL _ _ s) (dps_mono hL hT a)
  | _, _, .tup s a => .tup (hT _ _ s) (dps_mono hL hT a)
theorem dps_mono {K : PySem.W.Frag} {H H' : Hp} (hL : ∀ a xs, SqL K H a xs → SqL K H' a xs) (hT : ∀ a xs, SqT K H a xs → SqT K H' a xs) : ∀ {vs : List V} {ds : List PyData}, DpAll K H vs ds → DpAll K H' vs ds
  | _, _, .nil => .nil
  | _, _, .cons h t => .cons (dp_mono hL hT h) (dps_mono hL hT t)
end
theorem dp_same {K : PySem.W.Frag} {H H' : Hp} (s : Same H H') {v : V} {d : PyData} (h : Dp K H v d) : Dp K H' v d := dp_mono (fun _ _ x => s.seq x) (fun _ _ x => seqT s x) h
theorem dps_same {K : PySem.W.Frag} {H H' : Hp} (s : Same H H') {vs : List V} {ds : List PyData} (h : DpAll K H vs ds) : DpAll K H' vs ds := dps_mono (fun _ _ x => s.seq x) (fun _ _ x => seqT s x) h
mutual
/-- no lists within -/
def noL : PyData → Bool
  | .list _ => false
  | .dict _ => false
  | .tuple ds => noLs ds
  | _ => true
def noLs : List PyData → Bool
  | [] => true
  | d :: ds => noL d && noLs ds
end
mutual
theorem dp_monoT {K : PySem.W.Frag} {H H' : Hp} (hT : ∀ a xs, SqT K H a xs → SqT K H' a xs) : ∀ {v : V} {d : PyData}, Dp K H v d → noL d = true → Dp K H' v d
  | _, _, .non, _ => .non
  | _, _, .bl b, _ => .bl b
  | _, _, .int i, _ => .int i
  | _, _, .str x, _ => .str x
  | _, _, .lst s a, n => by simp [noL] at n
  | _, _, .tup s a, n => .tup (hT _ _ s) (dps_monoT hT a (by simpa [noL] using n))
theorem dps_monoT {K : PySem.W.Frag} {H H' : Hp} (hT : ∀ a xs, SqT K H a xs → SqT K H' a xs) : ∀ {vs : List V} {ds : List PyData}, DpAll K H vs ds → noLs ds = true → DpAll K H' vs ds
  | _, _, .nil, _ => .nil
  | _, _, .cons h t, n => by
    exact .cons (dp_monoT hT h (by simp [noLs] at n; exact n.1)) (dps_monoT hT t (by simp [noLs] at n; exact n.2))
end
theorem noLs_of : ∀ {ds : List PyData}, (∀ d ∈ ds, noL d = true) → noLs ds = true
  | [], _ => rfl
  | d :: ds, h => by
    have e := noLs_of (ds := ds) fun x hx => h x (List.mem_cons_of_mem _ hx)
    simp [noLs, h d List.mem_cons_self, e]
theorem dp_tup {K : PySem.W.Frag} {H : Hp} {v : V} {ds : List PyData} (h : Dp K H v (.tuple ds)) : ∃ a xs, v = .ref a ∧ SqT K H a xs ∧ DpAll K H xs ds := by
  cases h with
  | tup s a => exact ⟨_, _, rfl, s, a⟩
theorem dp_lst {K : PySem.W.Frag} {H : Hp} {v : V} {ds : List PyData} (h : Dp K H v (.list ds)) : ∃ a xs, v = .ref a ∧ SqL K H a xs ∧ DpAll K H xs ds := by
  cases h with
  | lst s a => exact ⟨_, _, rfl, s, a⟩
theorem dp_non {K : PySem.W.Frag} {H : Hp} {v : V} (h : Dp K H v .none) : v = .non := by
  cases h
  rfl
theorem dp_int {K : PySem.W.Frag} {H : Hp} {v : V} {i : Int} (h : Dp K H v (.int i)) : v = .int i := by
  cases h
  rfl
theorem dps_len {K : PySem.W.Frag} {H : Hp} : ∀ {vs : List V} {ds : List PyData}, DpAll K H vs ds → vs.length = ds.length
  | _, _, .nil => rfl
  | _, _, .cons _ t => congrArg (· + 1) (dps_len t)
theorem dps_get {K : PySem.W.Frag} {H : Hp} : ∀ {vs : List V} {ds : List PyData} {i : Nat} {d : PyData}, DpAll K H vs ds → ds[i]? = some d → ∃ x, vs[i]? = some x ∧ Dp K H x d
  | _, _, _, _, .nil, e => by simp at e
  | _, _, 0, _, .cons h _, e => by
    have e' : _ = _ := Option.some.inj e
    subst e'
    exact ⟨_, rfl, h⟩
  | _, _, i + 1, d, .cons _ t, e => dps_get (i := i) t (by simpa using e)
theorem dps_getV {K : PySem.W.Frag} {H : Hp} : ∀ {vs : List V} {ds : List PyData} {i : Nat} {x : V}, DpAll K H vs ds → vs[i]? = some x → ∃ d, ds[i]? = some d ∧ Dp K H x d
  | _, _, _, _, .nil, e => by simp at e
  | _, _, 0, _, .cons h _, e => by
    have e' : _ = _ := Option.some.inj e
    subst e'
    exact ⟨_, rfl, h⟩
  | _, _, i + 1, d, .cons _ t, e => dps_getV (i := i) t (by simpa using e)
theorem dps_snoc {K : PySem.W.Frag} {H : Hp} : ∀ {vs : List V} {ds : List PyData} {x : V} {d : PyData}, DpAll K H vs ds → Dp K H x d → DpAll K H (vs ++ [x]) (ds ++ [d])
  | _, _, _, _, .nil, h => .cons h .nil
  | _, _, _, _, .cons h t, h' => .cons h (dps_snoc t h')
theorem dps_ints {K : PySem.W.Frag} {H : Hp} : ∀ (ns : List Int), DpAll K H (ns.map V.int) (ns.map PyData.int)
  | [] => .nil
  | n :: r => .cons (.int n) (dps_ints r)
theorem dps_intsV {K : PySem.W.Frag} {H : Hp} : ∀ {ns : List Int} {vs : List V}, DpAll K H vs (ns.map PyData.int) → vs = ns.map V.int
  | [], _, h => by cases h; rfl
  | n :: r, _, h => by
    cases h with
    | cons h1 h2 => rw [dp_int h1, dps_intsV h2]; rfl
theorem dp_any {K : PySem.W.Frag} {H : Hp} {v : V} {d : PyData} (h : Dp K H v d) : ∃ t, AnyV K H v t := by
  cases h with
  | non => exact ⟨_, .non⟩
  | bl b => exact ⟨_, .bl b⟩
  | int i => exact ⟨_, .int i⟩
  | str x => exact ⟨_, .str x⟩
  | lst s _ => exact ⟨_, .lst s⟩
  | tup s _ => exact ⟨_, .tup s⟩
/-! ### tables -/
/-- a step: where it leads and what it writes -/
abbrev Stp := Option (Nat × Nat)
abbrev Tab := List (List Stp)
def stepD : Stp → PyData
  | none => .none
  | some (n, w) => .tuple [.int (n : Nat), .int (w : Nat)]
def rowD (r : List Stp) : PyData := .tuple (r.map stepD)
def tabD (t : Tab) : PyData := .tuple (t.map rowD)
structure Good (t : Tab) (m : Nat) : Prop where
  lo : 1 ≤ t.length
  hi : t.length ≤ 6
  lets : m = 2 ∨ m = 3
  rows : ∀ r ∈ t, r.length = m
  steps : ∀ r ∈ t, ∀ n w, some (n, w) ∈ r → n < t.length ∧ w < 4
theorem noL_step (s : Stp) : noL (stepD s) = true := by
  cases s with
  | none => rfl
  | some p => obtain ⟨n, w⟩ := p; rfl
theorem noL_row (r : List Stp) : noL (rowD r) = true := by
  unfold rowD
  show noLs (r.map stepD) = true
  refine noLs_of fun d hd => ?_
  obtain ⟨s, _, rfl⟩ := List.mem_map.mp hd
  exact noL_step s
theorem noL_tab (t : Tab) : noL (tabD t) = true := by
  unfold tabD
  show noLs (t.map rowD) = true
  refine noLs_of fun d hd => ?_
  obtain ⟨s, _, rfl⟩ := List.mem_map.mp hd
  exact noL_row s
/-- a row of letters -/
def lettersD (r : List Nat) : PyData := .tuple (r.map fun (c : Nat) => PyData.int (c : Int))
theorem noL_letters (r : List Nat) : noL (lettersD r) = true := by
  unfold lettersD
  show noLs (r.map _) = true
  refine noLs_of fun d hd => ?_
  obtain ⟨s, _, rfl⟩ := List.mem_map.mp hd
  rfl
/-! ### the source of draws: the list h of a state, the list l of the cells, and an index -/
structure Src (H : Hp) (h l : Addr) : Prop where
  ne : h ≠ l
  ex : ∃ (st ix : Int) (cells : List Int), H h = some (.lst [.int st, .ref l, .int ix]) ∧ H l = some (.lst (cells.map V.int)) ∧ cells.length ≤ 63 ∧ 0 ≤ st ∧ st < 2147483647
/-- all that stood beside the source stands -/
def Keep (h l : Addr) (H H' : Hp) : Prop := ∀ b o, b ≠ h → b ≠ l → H b = some o → H' b = some o
theorem Keep.refl {h l : Addr} (H : Hp) : Keep h l H H := fun _ _ _ _ e => e
theorem Keep.trans {h l : Addr} {H H1 H2 : Hp} (a : Keep h l H H1) (b : Keep h l H1 H2) : Keep h l H H2 := fun c o n1 n2 e => b c o n1 n2 (a c o n1 n2 e)
theorem Keep.of {h l : Addr} {H H' : Hp} (s : Same H H') : Keep h l H H' := fun c o _ _ e => s c o e
theorem Src.same {H H' : Hp} {h l : Addr} (s : Src H h l) (e : Same H H') : Src H' h l := by
  obtain ⟨ne, st, ix, cs, a, b, c⟩ := s
  exact ⟨ne, st, ix, cs, e _ _ a, e _ _ b, c⟩
theorem Src.neT {H : Hp} {h l a : Addr} {xs : List V} (s : Src H h l) (e : Rd H a (.tup xs)) : a ≠ h ∧ a ≠ l := by
  obtain ⟨ne, st, ix, cs, e1, e2, _⟩ := s
  rcases e with e | ⟨o, e⟩
  · exact ⟨ne_of e e1 (by intro z; cases z), ne_of e e2 (by intro z; cases z)⟩
  · exact ⟨ne_of e e1 (by intro z; cases z), ne_of e e2 (by intro z; cases z)⟩
theorem Src.keepT {K : PySem.W.Frag} {H H' : Hp} {h l a : Addr} {xs : List V} (s : Src H h l) (k : Keep h l H H') (e : SqT K H a xs) : SqT K H' a xs := by
  rcases e with e | e
  · obtain ⟨n1, n2⟩ := s.neT e
    rcases e with e | ⟨o, e⟩
    · exact .inl (.inl (k _ _ n1 n2 e))
    · exact .inl (.inr ⟨o, k _ _ n1 n2 e⟩)
  · exact .inr e
theorem Src.keepD {K : PySem.W.Frag} {H H' : Hp} {h l : Addr} {v : V} {d : PyData} (s : Src H h l) (k : Keep h l H H') (e : Dp K H v d) (n : noL d = true) : Dp K H' v d := dp_monoT (fun _ _ x => s.keepT k x) e n
theorem Src.keepDs {K : PySem.W.Frag} {H H' : Hp} {h l : Addr} {vs : List V} {ds : List PyData} (s : Src H h l) (k : Keep h l H H') (e : DpAll K H vs ds) (n : noLs ds = true) : DpAll K H' vs ds := dps_monoT (fun _ _ x => s.keepT k x) e n
/-- what was new beside the source -/
theorem Src.neN {H : Hp} {h l a : Addr} (s : Src H h l) (e : H a = none) : a ≠ h ∧ a ≠ l := by
  obtain ⟨ne, st, ix, cs, e1, e2, _⟩ := s
  exact ⟨(ne_of_none e1 e).symm, (ne_of_none e2 e).symm⟩
theorem ixN_in {n : Nat} {i : Int} (h0 : 0 ≤ i) (h1 : i < (n : Int)) : ixN n i = some i.toNat := by
  unfold ixN
  rw [if_pos h0, if_pos h1]
theorem atI_at {α : Type} {xs : List α} {i : Int} (h0 : 0 ≤ i) (h1 : i < (xs.length : Int)) : ∃ c, atI xs i = some c ∧ xs[i.toNat]? = some c ∧ c ∈ xs := by
  have hk : i.toNat < xs.length := by omega
  refine ⟨xs[i.toNat], ?_, List.getElem?_eq_getElem hk, List.getElem_mem hk⟩
  unfold atI
  rw [ixN_in h0 h1]
  exact List.getElem?_eq_getElem hk
theorem atI_int {ns : List Int} {i : Int} (h0 : 0 ≤ i) (h1 : i < (ns.length : Int)) : ∃ c, atI (ns.map V.int) i = some (.int c) ∧ c ∈ ns := by
  obtain ⟨x, e, _, m⟩ := atI_at (xs := ns.map V.int) h0 (by rw [List.length_map]; exact h1)
  obtain ⟨c, hc, rfl⟩ := List.mem_map.mp m
  exact ⟨c, e, hc⟩
theorem Src.upd {H : Hp} {h l a : Addr} {o : HO} (s : Src H h l) (n1 : a ≠ h) (n2 : a ≠ l) : Src (upd H a o) h l := by
  obtain ⟨ne, st, ix, cs, e1, e2, r⟩ := s
  exact ⟨ne, st, ix, cs, by rw [upd_ne n1.symm]; exact e1, by rw [upd_ne n2.symm]; exact e2, r⟩
theorem Keep.free {h l a : Addr} {H H' : Hp} (k : Keep h l H H') (n1 : a ≠ h) (n2 : a ≠ l) (e : H' a = none) : H a = none := by
  cases q : H a with
  | none => rfl
  | some o =>
    rw [k a o n1 n2 q] at e
    cases e
theorem Keep.upd {h l a : Addr} {H H' : Hp} {o : HO} (k : Keep h l H H') (e : H a = none) : Keep h l H (upd H' a o) := fun b u n1 n2 q => by
  rw [upd_ne (ne_of_none q e)]
  exact k b u n1 n2 q
/-- tuples stand where a list is written anew -/
theorem seqT_upd {K : PySem.W.Frag} {H : Hp} {p a : Addr} {zs xs : List V} {o : HO} (hp : H p = some (.lst zs)) (h : SqT K H a xs) : SqT K (upd H p o) a xs := by
  rcases h with (h | ⟨u, h⟩) | h
  · exact .inl (.inl (by rw [upd_ne (ne_of h hp (by intro z; cases z))]; exact h))
  · exact .inl (.inr ⟨u, by rw [upd_ne (ne_of h hp (by intro z; cases z))]; exact h⟩)
  · exact .inr h
theorem dp_upd {K : PySem.W.Frag} {H : Hp} {p : Addr} {zs : List V} {o : HO} (hp : H p = some (.lst zs)) {v : V} {d : PyData} (h : Dp K H v d) (n : noL d = true) : Dp K (upd H p o) v d := dp_monoT (fun _ _ x => seqT_upd hp x) h n
theorem dps_upd {K : PySem.W.Frag} {H : Hp} {p : Addr} {zs : List V} {o : HO} (hp : H p = some (.lst zs)) {v : List V} {d : List PyData} (h : DpAll K H v d) (n : noLs d = true) : DpAll K (upd H p o) v d := dps_monoT (fun _ _ x => seqT_upd hp x) h n
theorem noLs_map {α : Type} {f : α → PyData} (h : ∀ x, noL (f x) = true) (xs : List α) : noLs (xs.map f) = true := noLs_of fun d hd => by
  obtain ⟨x, _, rfl⟩ := List.mem_map.mp hd
  exact h x
theorem small1k {n : Nat} (h : n ≤ 1000) : n ≤ sizeLine := Nat.le_of_lt (small1000 h)
theorem catA_ok {K : PySem.W.Frag} {H : Hp} {a b : Addr} {xs ys : List V} {Q : VK} (ha : SqT K H a xs) (hb : SqT K H b ys) (hl : xs.length + ys.length ≤ sizeLine) (k : ∀ r H', Same H H' → SqT K H' r (xs ++ ys) → Q (.ref r) H') :
    rCatA K (.ref a) (.ref b) H Q := by
  refine ⟨a, b, xs, ys, rfl, rfl, ha, hb, hl, fun e => ?_, fun _ e => ?_, fun _ _ p hp => k p _ (same_new hp _) (SqT.of upd_same)⟩
  · subst e
    exact k b H (Same.refl H) hb
  · subst e
    exact k a H (Same.refl H) (by rw [List.append_nil]; exact ha)
theorem slA_ok {K : PySem.W.Frag} {H : Hp} {a : Addr} {xs : List V} {lo hi : Option Int} {Q : VK} (ha : SqT K H a xs) (hw : (HT.sIx xs.length 0 lo = 0 ∧ HT.sIx xs.length xs.length hi = xs.length) → cutV xs lo hi = xs)
    (k : ∀ r H', Same H H' → SqT K H' r (cutV xs lo hi) → Q (.ref r) H') : rSlA K (.ref a) lo hi H Q :=
  ⟨a, xs, rfl, ha, fun z => k a H (Same.refl H) (by rw [hw z]; exact ha), fun _ p hp => k p _ (same_new hp _) (SqT.of upd_same)⟩
theorem dp_at {K : PySem.W.Frag} {H : Hp} {v : V} {ds : List PyData} {i : Nat} {d : PyData} (h : Dp K H v (.tuple ds)) (e : ds[i]? = some d) : ∃ a xs x, v = .ref a ∧ SqT K H a xs ∧ xs.length = ds.length ∧ xs[i]? = some x ∧ atI xs (i : Int) = some x ∧ Dp K H x d := by
  obtain ⟨a, xs, rfl, s, al⟩ := dp_tup h
  obtain ⟨x, ex, dx⟩ := dps_get al e
  exact ⟨a, xs, x, rfl, s, dps_len al, ex, atI_nat ex, dx⟩
/-! ### where rows lead -/
def stepAt (t : Tab) (n c : Nat) : Stp := (t.getD n []).getD c none
def walkF (t : Tab) : Nat → List Nat → Option (Nat × List Nat)
  | n, [] => some (n, [])
  | n, c :: r => match stepAt t n c with
    | none => none
    | some (n', x) => (walkF t n' r).map fun p => (p.1, x :: p.2)
theorem walk_cons (t : Tab) (n c : Nat) (r : List Nat) : walkF t n (c :: r) = match stepAt t n c with
    | none => none
    | some (n', x) => (walkF t n' r).map fun p => (p.1, x :: p.2) := rfl
theorem walk_none (t : Tab) : ∀ (r s : List Nat) (n : Nat), walkF t n r = none → walkF t n (r ++ s) = none
  | [], s, n, h => by cases h
  | c :: r, s, n, h => by
    rw [List.cons_append, walk_cons]
    have h' := h
    rw [walk_cons] at h'
    cases e : stepAt t n c with
    | none => rfl
    | some p =>
      obtain ⟨n', x⟩ := p
      rw [e] at h'
      have q : walkF t n' r = none := by
        cases z : walkF t n' r with
        | none => rfl
        | some p => simp [z] at h'
      show (walkF t n' (r ++ s)).map _ = none
      rw [walk_none t r s n' q]
      rfl
theorem walk_some (t : Tab) : ∀ (r s : List Nat) (n m : Nat) (ws : List Nat), walkF t n r = some (m, ws) → walkF t n (r ++ s) = (walkF t m s).map fun p => (p.1, ws ++ p.2)
  | [], s, n, m, ws, h => by
    cases h
    show walkF t n s = _
    cases walkF t n s with
    | none => rfl
    | some p => rfl
  | c :: r, s, n, m, ws, h => by
    rw [List.cons_append, walk_cons]
    have h' := h
    rw [walk_cons] at h'
    cases e : stepAt t n c with
    | none => rw [e] at h'; cases h'
    | some p =>
      obtain ⟨n', x⟩ := p
      rw [e] at h'
      cases z : walkF t n' r with
      | none => simp [z] at h'
      | some p =>
        obtain ⟨m', ws'⟩ := p
        have q : m' = m ∧ x :: ws' = ws := by simpa [z] using h'
        obtain ⟨rfl, rfl⟩ := q
        show (walkF t n' (r ++ s)).map _ = _
        rw [walk_some t r s n' m' ws' z]
        cases walkF t m' s with
        | none => rfl
        | some p => rfl
theorem walk_one (t : Tab) (n c : Nat) : walkF t n [c] = (stepAt t n c).map fun p => (p.1, [p.2]) := by
  rw [walk_cons]
  cases stepAt t n c with
  | none => rfl
  | some p => rfl
theorem stepAt_good {t : Tab} {m : Nat} (g : Good t m) {n c n' x : Nat} (e : stepAt t n c = some (n', x)) : n' < t.length ∧ x < 4 := by
  unfold stepAt at e
  rw [List.getD_eq_getElem?_getD, List.getD_eq_getElem?_getD] at e
  cases z : t[n]? with
  | none => simp [z] at e
  | some r =>
    rw [z] at e
    have e' : r[c]?.getD none = some (n', x) := e
    cases y : r[c]? with
    | none => rw [y] at e'; cases e'
    | some s =>
      rw [y] at e'
      have e2 : s = some (n', x) := e'
      subst e2
      exact g.steps r (List.mem_of_getElem? z) n' x (List.mem_of_getElem? y)
theorem walk_good {t : Tab} {m : Nat} (g : Good t m) : ∀ (r : List Nat) (n k : Nat) (ws : List Nat), n < t.length → walkF t n r = some (k, ws) → k < t.length ∧ ws.length = r.length ∧ ∀ x ∈ ws, x < 4
  | [], n, k, ws, hn, h => by
    cases h
    exact ⟨hn, rfl, fun _ z => nomatch z⟩
  | c :: r, n, k, ws, hn, h => by
    have h' := h
    rw [walk_cons] at h'
    cases e : stepAt t n c with
    | none => rw [e] at h'; cases h'
    | some p =>
      obtain ⟨n', x⟩ := p
      rw [e] at h'
      cases z : walkF t n' r with
      | none => simp [z] at h'
      | some p =>
        obtain ⟨m', ws'⟩ := p
        have q : m' = k ∧ x :: ws' = ws := by simpa [z] using h'
        obtain ⟨rfl, rfl⟩ := q
        obtain ⟨a, b⟩ := stepAt_good g e
        obtain ⟨y1, y2, y3⟩ := walk_good g r n' m' ws' a z
        refine ⟨y1, congrArg (· + 1) y2, fun u hu => ?_⟩
        rcases List.mem_cons.mp hu with rfl | hu
        · exact b
        · exact y3 u hu
/-- a table's step, in the heap -/
theorem tab_at {K : PySem.W.Frag} {H : Hp} {v : V} {t : Tab} {m n c : Nat} (g : Good t m) (h : Dp K H v (tabD t)) (hn : n < t.length) (hc : c < m) :
    ∃ a xs b ys z, v = .ref a ∧ SqT K H a xs ∧ xs.length = t.length ∧ atI xs (n : Int) = some (.ref b) ∧ SqT K H b ys ∧ ys.length = m ∧ atI ys (c : Int) = some z ∧ Dp K H z (stepD (stepAt t n c)) := by
  obtain ⟨r, hr⟩ : ∃ r, t[n]? = some r := ⟨_, List.getElem?_eq_getElem hn⟩
  have hr' : (t.map rowD)[n]? = some (rowD r) := by rw [List.getElem?_map, hr]; rfl
  obtain ⟨a, xs, x, rfl, s, l1, _, e1, d1⟩ := dp_at h hr'
  have lr : r.length = m := g.rows r (List.mem_of_getElem? hr)
  obtain ⟨q, hq⟩ : ∃ q, r[c]? = some q := ⟨_, List.getElem?_eq_getElem (by omega)⟩
  have hq' : (r.map stepD)[c]? = some (stepD q) := by rw [List.getElem?_map, hq]; rfl
  obtain ⟨b, ys, z, rfl, s2, l2, _, e2, d2⟩ := dp_at d1 hq'
  refine ⟨a, xs, b, ys, z, rfl, s, by rw [l1, List.length_map], e1, s2, by rw [l2, List.length_map]; exact lr, e2, ?_⟩
  have : stepAt t n c = q := by
    simp [stepAt, List.getD_eq_getElem?_getD, hr, hq]
  rw [this]
  exact d2
/-- a step's parts, in the heap -/
theorem step_at {K : PySem.W.Frag} {H : Hp} {v : V} {n x : Nat} (h : Dp K H v (stepD (some (n, x)))) : ∃ a xs, v = .ref a ∧ SqT K H a xs ∧ atI xs 0 = some (.int n) ∧ atI xs 1 = some (.int x) ∧ xs.length = 2 := by
  obtain ⟨a, xs, rfl, s, al⟩ := dp_tup (show Dp K H v (.tuple [.int (n : Nat), .int (x : Nat)]) from h)
  have e : xs = [(n : Int), (x : Int)].map V.int := dps_intsV al
  subst e
  exact ⟨a, _, rfl, s, rfl, rfl, rfl⟩
def walkD : Option (Nat × List Nat) → PyData
  | none => .none
  | some (n, ws) => .tuple [.int (n : Nat), lettersD ws]
theorem take_more {α : Type} {l : List α} {i : Nat} {x : α} (h : l[i]? = some x) : l.take (i + 1) = l.take i ++ [x] := by
  rw [List.take_succ, h]
  rfl
/-! ### data that the law compares: to a depth -/
def okD : Nat → PyData → Bool
  | _, .none => true
  | _, .bool _ => true
  | _, .int _ => true
  | _, .str x => PyData.strOk x
  | n + 1, .list ds => decide (ds.length ≤ 1000000) && ds.all (okD n)
  | n + 1, .tuple ds => decide (ds.length ≤ 1000000) && ds.all (okD n)
  | _, _ => false
theorem okD_canAll {n : Nat} (ih : ∀ d : PyData, okD n d = true → d.canLay0 = true) : ∀ ds : List PyData, ds.all (okD n) = true → PyData.canLayAll0 ds = true
  | [], _ => rfl
  | d :: ds, h => by
    simp only [List.all_cons, Bool.and_eq_true] at h
    simp only [PyData.canLayAll0, Bool.and_eq_true]
    exact ⟨ih d h.1, okD_canAll ih ds h.2⟩
theorem okD_can : ∀ (n : Nat) (d : PyData), okD n d = true → d.canLay0 = true
  | _, .none, _ => rfl
  | _, .bool _, _ => rfl
  | _, .int _, _ => rfl
  | 0, .str x, h => h
  | n + 1, .str x, h => h
  | 0, .list ds, h => by simp [okD] at h
  | 0, .tuple ds, h => by simp [okD] at h
  | 0, .dict ds, h => by simp [okD] at h
  | n + 1, .dict ds, h => by simp [okD] at h
  | n + 1, .list ds, h => by
    simp only [okD, Bool.and_eq_true] at h
    exact okD_canAll (okD_can n) ds h.2
  | n + 1, .tuple ds, h => by
    simp only [okD, Bool.and_eq_true] at h
    exact okD_canAll (okD_can n) ds h.2
def tyD : PyData → String
  | .none => "NoneType"
  | .bool _ => "bool"
  | .int _ => "int"
  | .str _ => "str"
  | .list _ => "list"
  | .tuple _ => "tuple"
  | .dict _ => "dict"
theorem dp_ty {K : PySem.W.Frag} {H : Hp} {v : V} {d : PyData} (h : Dp K H v d) : AnyV K H v (tyD d) := by
  cases h with
  | non => exact .non
  | bl b => exact .bl b
  | int i => exact .int i
  | str x => exact .str x
  | lst s _ => exact .lst s
  | tup s _ => exact .tup s
theorem kit2 {K : PySem.W.Frag} {t c1 c2 : String} {b1 b2 : Bool} (h1 : kitB t c1 = some b1) (h2 : kitB t c2 = some b2) : PySem.W.kitAny K (.type t) [.type c1, .type c2] = some (b1 || b2) := by
  refine kitAny_cons (kit_ty h1) (fun e => ?_) (fun e => by rw [e]; rfl)
  subst e
  refine kitAny_cons (kit_ty h2) (fun e => ?_) (fun e => by rw [e]; rfl)
  subst e
  rfl
theorem ixQ_ok {K : PySem.W.Frag} {H : Hp} {a : Addr} {xs : List V} {i : Int} {v : V} {Q : VK} (h : SqL K H a xs ∨ SqT K H a xs) (e : atI xs i = some v) (q : Q v H) : rIx K (.ref a) (.int i) H Q :=
  h.elim (fun z => .inl ⟨a, xs, i, v, rfl, rfl, z, e, q⟩) fun z => .inr (.inl ⟨a, xs, i, v, rfl, rfl, z, e, q⟩)
theorem seqQ {K : PySem.W.Frag} {H H' : Hp} {a : Addr} {xs : List V} (s : Same H H') (h : SqL K H a xs ∨ SqT K H a xs) : SqL K H' a xs ∨ SqT K H' a xs := h.elim (fun z => .inl (s.seq z)) fun z => .inr (seqT s z)
/-! ### a machine in the heap -/
structure Txt (K : PySem.W.Frag) (C : Addr) : Prop where
  cl : Cls K C
  nT : NoAttr K C "_table"
def Mach (K : PySem.W.Frag) (C : Addr) (H : Hp) (x : Addr) (t : Tab) : Prop := ∃ dx v, H x = some (.ins C dx [("_table", v)]) ∧ Dp K H v (tabD t)
theorem Mach.same {K : PySem.W.Frag} {C : Addr} {H H' : Hp} {x : Addr} {t : Tab} (m : Mach K C H x t) (s : Same H H') : Mach K C H' x t := by
  obtain ⟨dx, v, e, d⟩ := m
  exact ⟨dx, v, s _ _ e, dp_same s d⟩
theorem Mach.keep {K : PySem.W.Frag} {C : Addr} {H H' : Hp} {x : Addr} {t : Tab} {h l : Addr} (m : Mach K C H x t) (s : Src H h l) (k : Keep h l H H') : Mach K C H' x t := by
  obtain ⟨dx, v, e, d⟩ := m
  obtain ⟨ne, st, ix, cs, e1, e2, _⟩ := id s
  exact ⟨dx, v, k _ _ (ne_of e e1 (by intro z; cases z)) (ne_of e e2 (by intro z; cases z)) e, s.keepD k d (noL_tab t)⟩
theorem tab_len {K : PySem.W.Frag} {H : Hp} {v : V} {t : Tab} (h : Dp K H v (tabD t)) : ∃ a xs, v = .ref a ∧ SqT K H a xs ∧ xs.length = t.length := by
  obtain ⟨a, xs, rfl, s, al⟩ := dp_tup (show Dp K H v (.tuple (t.map rowD)) from h)
  exact ⟨a, xs, rfl, s, by rw [dps_len al, List.length_map]⟩
/-- what a step, a row of a table are, of any data -/
def belowD (n : Int) : PyData → Bool
  | .int i => decide (0 ≤ i) && decide (i < n)
  | _ => false
def stepOk (n : Int) : PyData → Bool
  | .none => true
  | .tuple [a, b] => belowD n a && belowD 4 b
  | _ => false
def rowOk (n : Int) : PyData → Bool
  | .tuple ds => (decide (ds.length = 2) || decide (ds.length = 3)) && ds.all (stepOk n)
  | _ => false
theorem stepOk_good {n a x : Nat} (h1 : a < n) (h2 : x < 4) : stepOk (n : Int) (stepD (some (a, x))) = true := by
  have e1 : (a : Int) < (n : Int) := by omega
  have e2 : (x : Int) < 4 := by omega
  have e3 : (0 : Int) ≤ (a : Int) := by omega
  have e4 : (0 : Int) ≤ (x : Int) := by omega
  show ((decide (0 ≤ (a : Int)) && decide ((a : Int) < (n : Int))) && (decide (0 ≤ (x : Int)) && decide ((x : Int) < 4))) = true
  rw [decide_eq_true e1, decide_eq_true e2, decide_eq_true e3, decide_eq_true e4]
  rfl
theorem rowOk_good {t : Tab} {m : Nat} (g : Good t m) {r : List Stp} (hr : r ∈ t) : rowOk (t.length : Int) (rowD r) = true := by
  have lr := g.rows r hr
  show ((decide ((r.map stepD).length = 2) || decide ((r.map stepD).length = 3)) && (r.map stepD).all (stepOk (t.length : Int))) = true
  rw [Bool.and_eq_true, List.all_eq_true]
  refine ⟨?_, fun d hd => ?_⟩
  · rw [List.length_map, lr]
    rcases g.lets with e | e <;> rw [e] <;> rfl
  · obtain ⟨s, hs, rfl⟩ := List.mem_map.mp hd
    cases s with
    | none => rfl
    | some p =>
      obtain ⟨a, x⟩ := p
      obtain ⟨h1, h2⟩ := g.steps r hr a x hs
      exact stepOk_good h1 h2
theorem len_two {α : Type} : ∀ {xs : List α}, xs.length = 2 → ∃ a b, xs = [a, b]
  | [a, b], _ => ⟨a, b, rfl⟩
  | [], h => by cases h
  | [_], h => by cases h
  | _ :: _ :: _ :: _, h => by simp at h
theorem stepOk_long {n : Int} : ∀ {ds : List PyData}, ds.length ≠ 2 → stepOk n (.tuple ds) = false
  | [], _ => rfl
  | [_], _ => rfl
  | [_, _], h => absurd rfl h
  | _ :: _ :: _ :: _, _ => rfl
theorem stepOk_two {n : Int} {a b : PyData} : stepOk n (.tuple [a, b]) = (belowD n a && belowD 4 b) := rfl
end WS
namespace WS
open PySem L2
/-- the heap without the source -/
def cut (h l : Addr) (H : Hp) : Hp := fun b => if b = h ∨ b = l then none else H b
/-- d stands at v whatever becomes of the source -/
def Dk (K : PySem.W.Frag) (h l : Addr) (H : Hp) (v : V) (d : PyData) : Prop := Dp K (cut h l H) v d
def DkA (K : PySem.W.Frag) (h l : Addr) (H : Hp) (vs : List V) (ds : List PyData) : Prop := DpAll K (cut h l H) vs ds
section
variable {K : PySem.W.Frag} {h l : Addr} {H H' : Hp} {v : V} {vs ws : List V} {d : PyData} {ds es : List PyData}
theorem cut_at {b : Addr} (n1 : b ≠ h) (n2 : b ≠ l) : cut h l H b = H b := if_neg fun z => z.elim n1 n2
theorem cut_same : Same (cut h l H) H := fun b o e => by
  unfold cut at e
  split at e
  · cases e
  · exact e
theorem cut_keep (k : Keep h l H H') : Same (cut h l H) (cut h l H') := fun b o e => by
  have e' := cut_same b o e
  unfold cut at e
  split at e
  · cases e
  · rename_i n
    have n1 : b ≠ h := fun z => n (.inl z)
    have n2 : b ≠ l := fun z => n (.inr z)
    rw [cut_at n1 n2]
    exact k b o n1 n2 e'
theorem cut_new {p : Addr} {o : HO} (s : Src H h l) (hp : H p = none) : cut h l (upd H p o) p = some o := by
  obtain ⟨n1, n2⟩ := s.neN hp
  rw [cut_at n1 n2]
  exact upd_same
theorem Dk.dp (x : Dk K h l H v d) : Dp K H v d := dp_same cut_same x
theorem DkA.dp (x : DkA K h l H vs ds) : DpAll K H vs ds := dps_same cut_same x
theorem Dk.keep (x : Dk K h l H v d) (k : Keep h l H H') : Dk K h l H' v d := dp_same (cut_keep k) x
theorem DkA.keep (x : DkA K h l H vs ds) (k : Keep h l H H') : DkA K h l H' vs ds := dps_same (cut_keep k) x
theorem Dk.same (x : Dk K h l H v d) (k : Same H H') : Dk K h l H' v d := x.keep (Keep.of k)
theorem DkA.same (x : DkA K h l H vs ds) (k : Same H H') : DkA K h l H' vs ds := x.keep (Keep.of k)
theorem Dk.of (s : Src H h l) (x : Dp K H v d) (n : noL d = true) : Dk K h l H v d := dp_monoT (fun a xs e => by
  rcases e with e | e
  · obtain ⟨n1, n2⟩ := s.neT e
    rcases e with e | ⟨o, e⟩
    · exact .inl (.inl (by rw [cut_at n1 n2]; exact e))
    · exact .inl (.inr ⟨o, by rw [cut_at n1 n2]; exact e⟩)
  · exact .inr e) x n
theorem DkA.nil : DkA K h l H [] [] := DpAll.nil
theorem DkA.cons (x : Dk K h l H v d) (y : DkA K h l H vs ds) : DkA K h l H (v :: vs) (d :: ds) := DpAll.cons x y
theorem dps_app {H : Hp} : ∀ {vs ws : List V} {ds es : List PyData}, DpAll K H vs ds → DpAll K H ws es → DpAll K H (vs ++ ws) (ds ++ es)
  | _, _, _, _, .nil, b => b
  | _, _, _, _, .cons x a, b => .cons x (dps_app a b)
theorem DkA.app (x : DkA K h l H vs ds) (y : DkA K h l H ws es) : DkA K h l H (vs ++ ws) (ds ++ es) := dps_app x y
theorem DkA.len (x : DkA K h l H vs ds) : vs.length = ds.length := dps_len x
theorem dps_drop {H : Hp} : ∀ {vs : List V} {ds : List PyData} (n : Nat), DpAll K H vs ds → DpAll K H (vs.drop n) (ds.drop n)
  | _, _, 0, a => a
  | _, _, n + 1, .nil => .nil
  | _, _, n + 1, .cons _ a => dps_drop n a
theorem dps_take {H : Hp} : ∀ {vs : List V} {ds : List PyData} (n : Nat), DpAll K H vs ds → DpAll K H (vs.take n) (ds.take n)
  | _, _, 0, _ => by rw [List.take_zero, List.take_zero]; exact .nil
  | _, _, n + 1, .nil => .nil
  | _, _, n + 1, .cons x a => .cons x (dps_take n a)
theorem DkA.drop (n : Nat) (x : DkA K h l H vs ds) : DkA K h l H (vs.drop n) (ds.drop n) := dps_drop n x
theorem DkA.take (n : Nat) (x : DkA K h l H vs ds) : DkA K h l H (vs.take n) (ds.take n) := dps_take n x
theorem DkA.rep (x : DkA K h l H vs ds) : ∀ n : Nat, DkA K h l H (List.replicate n vs).flatten (List.replicate n ds).flatten
  | 0 => DpAll.nil
  | n + 1 => by
    rw [List.replicate_succ, List.replicate_succ, List.flatten_cons, List.flatten_cons]
    exact dps_app x (DkA.rep x n)
theorem DkA.mem (x : DkA K h l H vs ds) (hv : v ∈ vs) : ∃ d, d ∈ ds ∧ Dk K h l H v d := by
  obtain ⟨i, hi⟩ := List.getElem?_of_mem hv
  obtain ⟨d, hd, dx⟩ := dps_getV x hi
  exact ⟨d, List.mem_of_getElem? hd, dx⟩
/-- a tuple, a list that is new -/
theorem Dk.tup {p : Addr} (s : Src H h l) (hp : H p = none) (x : DkA K h l H vs ds) : Dk K h l (upd H p (.tup vs)) (.ref p) (.tuple ds) :=
  Dp.tup (.inl (.inl (cut_new s hp))) (x.same (same_new hp _))
theorem Dk.lst {p : Addr} (s : Src H h l) (hp : H p = none) (x : DkA K h l H vs ds) : Dk K h l (upd H p (.lst vs)) (.ref p) (.list ds) :=
  Dp.lst (SqL.of (cut_new s hp)) (x.same (same_new hp _))
/-- what stands in a kept tuple -/
theorem Dk.parts (x : Dk K h l H v (.tuple ds)) : ∃ a xs, v = .ref a ∧ SqT K H a xs ∧ DkA K h l H xs ds := by
  obtain ⟨a, xs, rfl, sx, al⟩ := dp_tup x
  exact ⟨a, xs, rfl, seqT cut_same sx, al⟩
/-- a tuple made of kept parts, wherever it stands -/
theorem Dk.tupS {a : Addr} (s : Src H h l) (e : SqT K H a vs) (x : DkA K h l H vs ds) : Dk K h l H (.ref a) (.tuple ds) := by
  refine Dp.tup ?_ x
  rcases e with e | e
  · obtain ⟨n1, n2⟩ := s.neT e
    rcases e with e | ⟨o, e⟩
    · exact .inl (.inl (by rw [cut_at n1 n2]; exact e))
    · exact .inl (.inr ⟨o, by rw [cut_at n1 n2]; exact e⟩)
  · exact .inr e
/-! ### displays -/
/-- behind H0 the reading te makes the data d -/
def Mks (K : PySem.W.Frag) (H0 : Hp) (te : TE) (σ : L2.St) (d : PyData) : Prop := ∀ (h l : Addr) (H : Hp) (Q : VK), Same H0 H → Src H h l → (∀ v H', Same H H' → Src H' h l → Dk K h l H' v d → Q v H') → te σ H Q
def MksA (K : PySem.W.Frag) (H0 : Hp) (t : TA) (σ : L2.St) (ds : List PyData) : Prop := ∀ (h l : Addr) (H : Hp) (Q : List V → Hp → Prop), Same H0 H → Src H h l → (∀ vs H', Same H H' → Src H' h l → DkA K h l H' vs ds → Q vs H') → t σ H Q
variable {σ : L2.St} {te : TE} {t : TA} {H0 : Hp}
theorem mks_int (i : Int) : Mks K H0 (tC (.int i)) σ (.int i) := fun _ _ H _ _ s k => k _ H (Same.refl H) s (.int i)
theorem mks_bl (b : Bool) : Mks K H0 (tC (.bl b)) σ (.bool b) := fun _ _ H _ _ s k => k _ H (Same.refl H) s (.bl b)
theorem mks_non : Mks K H0 (tC .non) σ .none := fun _ _ H _ _ s k => k _ H (Same.refl H) s .non
theorem mks_str (x : Str) : Mks K H0 (tC (.str x)) σ (.str x) := fun _ _ H _ _ s k => k _ H (Same.refl H) s (.str x)
theorem mks_neg (i : Int) : Mks K H0 (tUn (rU fun i => .int (-i)) (tC (.int i))) σ (.int (-i)) := fun _ _ H _ _ s k => ⟨i, rfl, k _ H (Same.refl H) s (.int _)⟩
theorem mks_len {i : Nat} {a : Addr} {xs : List V} (e : σ[i]? = some (some (.ref a))) (hx : SqT K H0 a xs) : Mks K H0 (tCB (rLenS K) (tCons (tVar i) tNil)) σ (.int (xs.length : Nat)) := fun _ _ H _ s0 s k =>
  ⟨_, e, a, xs, rfl, .inr (seqT s0 hx), k _ H (Same.refl H) s (.int _)⟩
theorem mks_nil : MksA K H0 tNil σ [] := fun _ _ H _ _ s k => k _ H (Same.refl H) s .nil
theorem mks_cons (a : Mks K H0 te σ d) (b : MksA K H0 t σ ds) : MksA K H0 (tCons te t) σ (d :: ds) := fun h l H Q s0 s k =>
  a h l H _ s0 s fun v H1 s1 S1 x => b h l H1 _ (s0.trans s1) S1 fun vs H2 s2 S2 y => k _ H2 (s1.trans s2) S2 (.cons (x.same s2) y)
theorem mks_tup (a : MksA K H0 t σ ds) (hl : ds.length ≤ 1000) : Mks K H0 (tTup t) σ (.tuple ds) := fun h l H Q s0 s k =>
  a h l H _ s0 s fun vs H1 s1 S1 x => ⟨by rw [x.len]; exact small1k hl, fun p hp => k _ _ (s1.trans (same_new hp _)) (S1.same (same_new hp _)) (Dk.tup S1 hp x)⟩
theorem mks_lst (a : MksA K H0 t σ ds) (hl : ds.length ≤ 1000) : Mks K H0 (tLst t) σ (.list ds) := fun h l H Q s0 s k =>
  a h l H _ s0 s fun vs H1 s1 S1 x => ⟨by rw [x.len]; exact small1k hl, fun p hp => k _ _ (s1.trans (same_new hp _)) (S1.same (same_new hp _)) (Dk.lst S1 hp x)⟩
theorem mks_repT {n : Int} {ds : List PyData} (a : Mks K H0 te σ (.tuple ds)) (h1 : ds ≠ []) (h2 : 2 ≤ n) (h3 : n ≤ 1000) (h4 : ds.length ≤ 1000) : Mks K H0 (tOp (rRepT K) te (tC (.int n))) σ (.tuple (List.replicate n.toNat ds).flatten) := fun h l H Q s0 s k =>
  a h l H _ s0 s fun v H1 s1 S1 x => by
    obtain ⟨a, xs, rfl, sx, dx⟩ := Dk.parts x
    have lx := dx.len
    exact ⟨a, n, xs, rfl, rfl, sx, fun z => h1 (by rw [z] at lx; exact List.length_eq_zero_iff.mp lx.symm), h2, h3, by omega, fun p hp => k _ _ (s1.trans (same_new hp _)) (S1.same (same_new hp _)) (Dk.tup S1 hp (dx.rep _))⟩
theorem mks_rep {n : Int} {ds : List PyData} (a : MksA K H0 t σ ds) (h2 : 0 ≤ n) (h3 : n ≤ 1000) (h4 : ds.length * n.toNat ≤ 1000) (h5 : ds.length ≤ 1000) : Mks K H0 (tOp rRep (tLst t) (tC (.int n))) σ (.list (List.replicate n.toNat ds).flatten) := fun h l H Q s0 s k =>
  a h l H _ s0 s fun vs H1 s1 S1 x => ⟨by rw [x.len]; exact small1k h5, fun p hp => ⟨p, n, vs, rfl, rfl, upd_same, by omega, by omega, by rw [x.len]; exact small1k h4, fun q hq => by
    have s2 := same_new hp (HO.lst vs)
    exact k _ _ (s1.trans (s2.trans (same_new hq _))) ((S1.same s2).same (same_new hq _)) (Dk.lst (S1.same s2) hq ((x.same s2).rep _))⟩⟩
theorem seq_lst {i : Nat} {b : TS} {D : Ends} {H : Hp} (S : Src H h l) (A : MksA K H t σ ds) (hl : ds.length ≤ 1000)
    (k : ∀ xs p H', Same H H' → Src H' h l → H' p = some (.lst xs) → DkA K h l H' xs ds → p ≠ h → p ≠ l → b D (σ.set i (some (.ref p))) H') : tSeq (tAsg (tLst t) (gName i)) b D σ H :=
  A h l H _ (Same.refl H) S fun xs H1 s1 S1 dx => ⟨by rw [dx.len]; exact small1k hl, fun p hp => k xs p _ (s1.trans (same_new hp _)) (S1.same (same_new hp _)) upd_same (dx.same (same_new hp _)) (S1.neN hp).1 (S1.neN hp).2⟩
theorem seq_cat {i : Nat} {b : TS} {D : Ends} {H : Hp} {p : Addr} {xs : List V} (S : Src H h l) (ei : σ[i]? = some (some (.ref p))) (ep : H p = some (.lst xs)) (dx : DkA K h l H xs es) (A : MksA K H t σ ds) (hl : ds.length ≤ 1000) (hl2 : es.length ≤ 1000)
    (k : ∀ ys q H', Same H H' → Src H' h l → H' q = some (.lst ys) → DkA K h l H' ys (es ++ ds) → q ≠ h → q ≠ l → b D (σ.set i (some (.ref q))) H') : tSeq (tAsg (tOp rCat (tVar i) (tLst t)) (gName i)) b D σ H :=
  ⟨_, ei, A h l H _ (Same.refl H) S fun ys H1 s1 S1 dy => ⟨by rw [dy.len]; exact small1k hl, fun q hq => by
    have s2 := same_new hq (HO.lst ys)
    have lx := dx.len
    have ly := dy.len
    refine ⟨p, q, xs, ys, rfl, rfl, s2 _ _ (s1 _ _ ep), upd_same, ?_, fun r hr => ?_⟩
    · rw [lx, ly, sizeLine_eq]
      omega
    · have s3 := same_new hr (HO.lst (xs ++ ys))
      have sA := s1.trans (s2.trans s3)
      exact k (xs ++ ys) r _ sA ((S1.same s2).same s3) upd_same ((dx.same sA).app (dy.same (s2.trans s3))) ((S1.same s2).neN hr).1 ((S1.same s2).neN hr).2⟩⟩
theorem slA2 {a : Addr} {xs : List V} {lo hi : Option Int} {Q : VK} (ha : SqT K H a xs) (k : ∀ r H', Same H H' → SqT K H' r (cutV xs lo hi) → Q (.ref r) H') : rSlA K (.ref a) lo hi H Q :=
  slA_ok ha (fun z => by unfold cutV; rw [z.1, z.2, List.drop_zero, Nat.sub_zero, List.take_length]) k
theorem cutV_take (xs : List V) {n : Nat} (hn : n ≤ xs.length) : cutV xs none (some (n : Int)) = xs.take n := by
  unfold cutV
  rw [HT.sIx_none, HT.sIx_nat, List.drop_zero, Nat.sub_zero, Nat.min_eq_left hn]
theorem cutV_drop (xs : List V) (n : Nat) : cutV xs (some (n : Int)) none = xs.drop n := by
  unfold cutV
  rw [HT.sIx_none, HT.sIx_nat]
  rcases Nat.le_total n xs.length with h | h
  · rw [Nat.min_eq_left h, List.take_of_length_le (by rw [List.length_drop]; omega)]
  · rw [Nat.min_eq_right h, List.drop_of_length_le (Nat.le_refl _), List.drop_of_length_le h, List.take_nil]
theorem cutV_last (xs : List V) (hn : 0 < xs.length) : cutV xs none (some (-1)) = xs.take (xs.length - 1) := by
  unfold cutV
  have e : HT.sIx xs.length xs.length (some (-1)) = xs.length - 1 := by
    show (if (-1 : Int) < 0 then ((-1 : Int) + (xs.length : Int)).toNat else min (-1 : Int).toNat xs.length) = xs.length - 1
    rw [if_pos (by decide)]
    omega
  rw [HT.sIx_none, e, List.drop_zero, Nat.sub_zero]
theorem atI_last {α : Type} {xs : List α} {x : α} (h : xs[xs.length - 1]? = some x) (hn : 0 < xs.length) : atI xs (-1) = some x := by
  unfold atI ixN
  rw [if_neg (by decide)]
  rw [if_pos (by omega)]
  show xs[((-1 : Int) + (xs.length : Int)).toNat]? = some x
  rw [show ((-1 : Int) + (xs.length : Int)).toNat = xs.length - 1 by omega]
  exact h
end
section
variable {X : Cx} (K : PySem.W.Frag)
theorem k_repT (e : X.K = K := by rfl) : OpR X (binaryOp .Mult) (rRepT K) := by subst e; exact op_repT
end
end WS
namespace WS
open PySem PySem.Spec PyProof.Rows L2
/-! ### data as keys -/
mutual
def kD : PyData → NestedKey
  | .none => .none
  | .bool b => .num (if b = true then 1 else 0)
  | .int i => .num i
  | .str x => .text x
  | .tuple ds => .tup (kDs ds)
  | .list _ => .none
  | .dict _ => .none
def kDs : List PyData → List NestedKey
  | [] => []
  | d :: ds => kD d :: kDs ds
end
mutual
/-- n: how deep at most -/
def isKey : PyData → Bool
  | .list _ => false
  | .dict _ => false
  | .tuple ds => areKeys ds
  | _ => true
def areKeys : List PyData → Bool
  | [] => true
  | d :: ds => isKey d && areKeys ds
end
theorem areKeys_of : ∀ {ds : List PyData}, (∀ d ∈ ds, isKey d = true) → areKeys ds = true
  | [], _ => rfl
  | d :: ds, h => by
    have e := areKeys_of (ds := ds) fun x hx => h x (List.mem_cons_of_mem _ hx)
    simp [areKeys, h d List.mem_cons_self, e]
mutual
theorem nested_of {X : Cx} {pins : List (Addr × Obj)} {σ : L2.St} {H : Hp} {s : Shared} (I : Inv X pins σ H s) : ∀ (d : PyData) (v : V) (u : Value), isKey d = true → Dp X.K H v d → RelV v u → NestedIs s.heap (kD d) u
  | .none, v, u, _, h, r => by
    cases h
    cases (show u = Value.none from r)
    exact .none
  | .bool b, v, u, _, h, r => by
    cases h
    cases (show u = Value.bool b from r)
    exact .bool rfl
  | .int i, v, u, _, h, r => by
    cases h
    obtain ⟨t, rfl⟩ := r
    exact .int i t
  | .str x, v, u, _, h, r => by
    cases h
    obtain ⟨t, rfl⟩ := r
    exact .text x t
  | .tuple ds, v, u, k, h, r => by
    obtain ⟨a, xs, rfl, s1, al⟩ := dp_tup h
    cases (show u = Value.ref a from r)
    obtain ⟨its, rv, ⟨o, ho, hc, n, hd⟩, _⟩ := I.tuple s1
    exact .tup ho hc hd (by simpa using nesteds_of I ds xs its (by simpa [isKey] using k) al rv)
  | .list _, _, _, k, _, _ => by simp [isKey] at k
  | .dict _, _, _, k, _, _ => by simp [isKey] at k
theorem nesteds_of {X : Cx} {pins : List (Addr × Obj)} {σ : L2.St} {H : Hp} {s : Shared} (I : Inv X pins σ H s) : ∀ (ds : List PyData) (vs : List V) (us : List Value), areKeys ds = true → DpAll X.K H vs ds → Vals vs us → NestedAll s.heap (kDs ds) us
  | [], vs, us, _, h, r => by
    cases h
    cases r
    exact .nil
  | d :: ds, vs, us, k, h, r => by
    cases h with
    | cons h1 h2 =>
      cases r with
      | cons r1 r2 =>
        simp only [areKeys, Bool.and_eq_true] at k
        exact .cons (nested_of I d _ _ k.1 h1 r1) (nesteds_of I ds _ _ k.2 h2 r2)
end
/-- the tuple at b is a key -/
def IsKey (K : PySem.W.Frag) (H : Hp) (b : Addr) (k : NestedKey) : Prop := ∃ d, isKey d = true ∧ k = kD d ∧ k.depth ≤ 8 ∧ Dp K H (.ref b) d
theorem IsKey.is {X : Cx} {pins : List (Addr × Obj)} {σ : L2.St} {H : Hp} {s : Shared} {b : Addr} {k : NestedKey} (I : Inv X pins σ H s) (h : IsKey X.K H b k) : (nestedKind X.prog X.w).is s.heap k b := by
  obtain ⟨d, h1, rfl, h2, h3⟩ := h
  exact ⟨nested_of I d _ _ h1 h3 rfl, h2⟩
theorem isKey_noL : ∀ (d : PyData), isKey d = noL d := by
  intro d
  exact go d
where
  go : ∀ (d : PyData), isKey d = noL d
  | .none => rfl
  | .bool _ => rfl
  | .int _ => rfl
  | .str _ => rfl
  | .list _ => rfl
  | .dict _ => rfl
  | .tuple ds => by
    show areKeys ds = noLs ds
    exact gos ds
  gos : ∀ (ds : List PyData), areKeys ds = noLs ds
  | [] => rfl
  | d :: ds => by
    show (isKey d && areKeys ds) = (noL d && noLs ds)
    rw [go d, gos ds]
theorem IsKey.mono {K : PySem.W.Frag} {H H' : Hp} {b : Addr} {k : NestedKey} (h : IsKey K H b k) (hT : ∀ a xs, SqT K H a xs → SqT K H' a xs) : IsKey K H' b k := by
  obtain ⟨d, h1, h2, h3, h4⟩ := h
  exact ⟨d, h1, h2, h3, dp_monoT hT h4 (by rw [← isKey_noL]; exact h1)⟩
theorem IsKey.same {K : PySem.W.Frag} {H H' : Hp} {b : Addr} {k : NestedKey} (h : IsKey K H b k) (s : Same H H') : IsKey K H' b k := h.mono fun _ _ z => seqT s z
/-! ### the dict -/
abbrev NE := NestedKey × Addr × V
def NRaw (P : Program) (w : World) (a : Addr) (xs : List NE) (h : Heap) : Prop := xs.length ≤ sizeLine ∧ (a == sysModules) = false ∧ ∃ ys : List (NestedKey × Addr × Value),
  Paired (fun (p : NE) (q : NestedKey × Addr × Value) => p.1 = q.1 ∧ p.2.1 = q.2.1 ∧ RelV p.2.2 q.2.2) xs ys ∧ ∃ o es ep, h.get? a = some o ∧ o.ExactDict ∧ o.data = .dict es ep ∧ es.toList = ys.map (entryOfKey (nestedKind P w)) ∧ (ys.map (·.1)).Nodup
def NDO (P : Program) (w : World) (a : Addr) (xs : List NE) : HO := .ext (NRaw P w a xs)
theorem ndo_ok {P : Program} {w : World} {H : Hp} {h : Heap} {a : Addr} {xs : List NE} (R : NRaw P w a xs h) : ObjOk P w H h a (NDO P w a xs) := by
  refine ⟨R, ?_, fun h1 h2 p k => ?_⟩
  · obtain ⟨_, _, ys, _, o, es, ep, ho, _⟩ := R
    exact ⟨o, ho⟩
  · obtain ⟨z, hd, ys, rel, o, es, ep, ho, r⟩ := p
    exact ⟨z, hd, ys, rel, o, es, ep, k _ ho, r⟩
structure ND (K : PySem.W.Frag) (P : Program) (w : World) (H : Hp) (a : Addr) (xs : List NE) : Prop where
  at_ : H a = some (NDO P w a xs)
  keys : ∀ x ∈ xs, IsKey K H x.2.1 x.1
theorem ND.of {X : Cx} {pins : List (Addr × Obj)} {σ : L2.St} {H : Hp} {s : Shared} {a : Addr} {xs : List NE} (I : Inv X pins σ H s) (h : ND X.K X.prog X.w H a xs) : xs.length ≤ sizeLine ∧ (a == sysModules) = false ∧ ∃ ys : List (NestedKey × Addr × Value),
    Paired (fun (p : NE) (q : NestedKey × Addr × Value) => p.1 = q.1 ∧ p.2.1 = q.2.1 ∧ RelV p.2.2 q.2.2) xs ys ∧ s.heap.DictOfH (nestedKind X.prog X.w) a ys := by
  obtain ⟨z, hd, ys, rel, o, es, ep, ho, h1, h2, h3, h4⟩ := (I.hok a _ h.at_).1
  refine ⟨z, hd, ys, rel, o, es, ep, ho, h1, h2, h3, fun y hy => ?_, h4⟩
  have key : ∀ {xs : List NE} {ys : List (NestedKey × Addr × Value)}, Paired (fun (p : NE) (q : NestedKey × Addr × Value) => p.1 = q.1 ∧ p.2.1 = q.2.1 ∧ RelV p.2.2 q.2.2) xs ys → ∀ y ∈ ys, ∃ x ∈ xs, x.1 = y.1 ∧ x.2.1 = y.2.1 := by
    intro xs ys r
    induction r with
    | nil => intro y hy; cases hy
    | cons h1 _ ih =>
      intro y hy
      rcases List.mem_cons.mp hy with rfl | hy
      · exact ⟨_, List.mem_cons_self, h1.1, h1.2.1⟩
      · obtain ⟨x, hx, e⟩ := ih y hy
        exact ⟨x, List.mem_cons_of_mem _ hx, e⟩
  obtain ⟨x, hx, e1, e2⟩ := key rel y hy
  rw [← e1, ← e2]
  exact (h.keys x hx).is I
/-- what it holds at a key -/
def nAt (xs : List NE) (k : NestedKey) : Option V := (xs.find? fun x => decide (x.1 = k)).map (·.2.2)
def nPutAt (k : NestedKey) (v : V) (x : NE) : NE := if x.1 = k then (x.1, x.2.1, v) else x
def nPut (xs : List NE) (k : NestedKey) (a : Addr) (v : V) : List NE := if (nAt xs k).isSome then xs.map (nPutAt k v) else xs ++ [(k, a, v)]
theorem nAt_rel {xs : List NE} {ys : List (NestedKey × Addr × Value)} (r : Paired (fun (p : NE) (q : NestedKey × Addr × Value) => p.1 = q.1 ∧ p.2.1 = q.2.1 ∧ RelV p.2.2 q.2.2) xs ys) (k : NestedKey) : RelO (nAt xs k) ((atKey ys k).map (·.2)) := by
  induction r with
  | nil => exact True.intro
  | @cons x y xs ys h1 _ ih =>
    obtain ⟨x1, x2, x3⟩ := x
    obtain ⟨y1, y2, y3⟩ := y
    obtain ⟨e1, e2, e3⟩ := h1
    have e1 : x1 = y1 := e1
    subst e1
    by_cases c : x1 = k
    · have z : nAt ((x1, x2, x3) :: xs) k = some x3 := by simp [nAt, List.find?_cons, c]
      have z' : (atKey ((x1, y2, y3) :: ys) k).map (·.2) = some y3 := by simp [atKey, List.find?_cons, c]
      rw [z, z']
      exact e3
    · have z : nAt ((x1, x2, x3) :: xs) k = nAt xs k := by simp [nAt, List.find?_cons, c]
      have z' : atKey ((x1, y2, y3) :: ys) k = atKey ys k := by simp [atKey, List.find?_cons, c]
      rw [z, z']
      exact ih
theorem nPut_rel {xs : List NE} {ys : List (NestedKey × Addr × Value)} (r : Paired (fun (p : NE) (q : NestedKey × Addr × Value) => p.1 = q.1 ∧ p.2.1 = q.2.1 ∧ RelV p.2.2 q.2.2) xs ys) (k : NestedKey) (a : Addr) {v : V} {u : Value} (rv : RelV v u) :
    Paired (fun (p : NE) (q : NestedKey × Addr × Value) => p.1 = q.1 ∧ p.2.1 = q.2.1 ∧ RelV p.2.2 q.2.2) (nPut xs k a v) (storedH ys k a u) := by
  have q := (nAt_rel r k).isSome_eq
  rw [Option.isSome_map] at q
  unfold nPut storedH
  rw [q]
  cases (atKey ys k).isSome with
  | true =>
    rw [if_pos rfl, if_pos rfl]
    clear q
    induction r with
    | nil => exact .nil
    | @cons x y xs ys h1 _ ih =>
      refine .cons ?_ ih
      obtain ⟨x1, x2, x3⟩ := x
      obtain ⟨y1, y2, y3⟩ := y
      obtain ⟨e1, e2, e3⟩ := h1
      have e1 : x1 = y1 := e1
      have e2 : x2 = y2 := e2
      subst e1 e2
      unfold nPutAt putAt
      by_cases c : x1 = k
      · rw [if_pos c, if_pos c]
        exact ⟨rfl, rfl, rv⟩
      · rw [if_neg c, if_neg c]
        exact ⟨rfl, rfl, e3⟩
  | false =>
    rw [if_neg (by simp), if_neg (by simp)]
    clear q
    induction r with
    | nil => exact .cons ⟨rfl, rfl, rv⟩ .nil
    | cons h1 _ ih => exact .cons h1 ih
theorem nPut_len (xs : List NE) (k : NestedKey) (a : Addr) (v : V) : (nPut xs k a v).length ≤ xs.length + 1 := by
  unfold nPut
  split
  · rw [List.length_map]; omega
  · rw [List.length_append]; exact Nat.le_refl _
def NGet (K : PySem.W.Frag) (P : Program) (w : World) (H : Hp) (a : Addr) (y : V) (r : Option V) : Prop := ∃ xs b k, ND K P w H a xs ∧ y = .ref b ∧ IsKey K H b k ∧ r = nAt xs k
def NPut (K : PySem.W.Frag) (P : Program) (w : World) (H : Hp) (a : Addr) (y v : V) (H' : Hp) : Prop := ∃ xs b k, ND K P w H a xs ∧ y = .ref b ∧ IsKey K H b k ∧ xs.length < sizeLine ∧ H' = upd H a (NDO P w a (nPut xs k b v))
section
variable {X : Cx} {pins : List (Addr × Obj)} {σ : L2.St} {H : Hp} {s : Shared} {a : Addr} {y v : V} {u r : Value} {o : Option V} {A : Around} {E : Value → Shared → Prop}
theorem nkey_room (hu : A.units + 64 < cLine) : (nestedKind X.prog X.w).room A.in1 := by
  show A.units + 1 + 8 < cLine
  omega
theorem nd_getItem {Q : Value → Shared → Prop} (hu : A.units + 64 < cLine) (I : Inv X pins σ H s) (g : NGet X.K X.prog X.w H a y (some v)) (ry : RelV y u) (h : ∀ w' s', Inv X pins σ H s' → RelV v w' → Q w' s') :
    wpAny (model X.prog X.w) A (getItem (.ref a) u) Q E s := by
  obtain ⟨xs, b, k, nd, ey, hk, l⟩ := g
  subst ey
  cases (show u = Value.ref b from ry)
  obtain ⟨z, hd, ys, rel, dd⟩ := nd.of I
  obtain ⟨w', hw, rw'⟩ := RelO.some_of (v := v) (o := (atKey ys k).map (·.2)) (by rw [l]; exact nAt_rel rel k)
  obtain ⟨p, hp, hp2⟩ := Option.map_eq_some_iff.mp hw
  refine wpAny_getItem_heap (knd := nestedKind X.prog X.w) (nkey_room (X := X) hu) (hk.is I) dd hp ?_
  rw [hp2]
  exact h w' _ (I.tok _) rw'
theorem nd_in {Q : Value → Shared → Prop} (hu : A.units + 64 < cLine) (I : Inv X pins σ H s) (g : NGet X.K X.prog X.w H a y o) (ry : RelV y u) (h : ∀ s', Inv X pins σ H s' → Q (.bool o.isSome) s') :
    wpAny (model X.prog X.w) A (compareOp .In u (.ref a)) Q E s := by
  obtain ⟨xs, b, k, nd, ey, hk, l⟩ := g
  subst ey
  cases (show u = Value.ref b from ry)
  obtain ⟨z, hd, ys, rel, dd⟩ := nd.of I
  refine wpAny_in_heap (knd := nestedKind X.prog X.w) (nkey_room (X := X) hu) (hk.is I) hd dd ?_
  have q := (nAt_rel rel k).isSome_eq
  rw [Option.isSome_map] at q
  rw [← q, ← l]
  exact h _ (I.tok _)
theorem nd_notIn {Q : Value → Shared → Prop} (hu : A.units + 64 < cLine) (I : Inv X pins σ H s) (g : NGet X.K X.prog X.w H a y o) (ry : RelV y u) (h : ∀ s', Inv X pins σ H s' → Q (.bool (!o.isSome)) s') :
    wpAny (model X.prog X.w) A (compareOp .NotIn u (.ref a)) Q E s := by
  obtain ⟨xs, b, k, nd, ey, hk, l⟩ := g
  subst ey
  cases (show u = Value.ref b from ry)
  obtain ⟨z, hd, ys, rel, dd⟩ := nd.of I
  refine wpAny_notIn_heap (knd := nestedKind X.prog X.w) (nkey_room (X := X) hu) (hk.is I) hd dd ?_
  have q := (nAt_rel rel k).isSome_eq
  rw [Option.isSome_map] at q
  rw [← q, ← l]
  exact h _ (I.tok _)
theorem nd_setItem {H' : Hp} {Q : Unit → Shared → Prop} (hu : A.units + 64 < cLine) (I : Inv X pins σ H s) (g : NPut X.K X.prog X.w H a y v H') (ry : RelV y u) (rv : RelV v r) (h : ∀ s', Inv X pins σ H' s' → Q () s') :
    wpAny (model X.prog X.w) A (setItem (.ref a) u r) Q E s := by
  obtain ⟨xs, b, k, nd, ey, hk, l, eH⟩ := g
  subst ey eH
  cases (show u = Value.ref b from ry)
  obtain ⟨z, hd, ys, rel, dd⟩ := nd.of I
  refine wpAny_setItem_heap (knd := nestedKind X.prog X.w) (nkey_room (X := X) hu) (hk.is I) dd (fun h' dd' hs => ?_) (by rw [← rel.length]; exact z)
  obtain ⟨ob, es, ep, ho, h2, h3, h4, h5, h6⟩ := dd'
  refine h _ (d_write I (by rw [nd.at_]; exact True.intro) hs ⟨ob, ho⟩ (ndo_ok ⟨?_, hd, _, nPut_rel rel k b rv, ob, es, ep, ho, h2, h3, h4, h6⟩))
  have := nPut_len xs k b v
  omega
theorem nd_typeIs (I : Inv X pins σ H s) (g : NGet X.K X.prog X.w H a y o) : s.TypeIs (.ref a) "dict" := by
  obtain ⟨xs, b, k, nd, _⟩ := g
  obtain ⟨_, _, ys, _, dd⟩ := nd.of I
  exact dd.typeIs
end
/-! ### any dict -/
def XGet (K : PySem.W.Frag) (P : Program) (w : World) (H : Hp) (a : Addr) (y : V) (r : Option V) : Prop := DGet H a y r ∨ NGet K P w H a y r
def XPut (K : PySem.W.Frag) (P : Program) (w : World) (H : Hp) (a : Addr) (y v : V) (H' : Hp) : Prop := DPut H a y v H' ∨ NPut K P w H a y v H'
def tXGet (K : PySem.W.Frag) (P : Program) (w : World) (td ty : TE) : TE := fun σ H Q => td σ H fun x H1 => ty σ H1 fun y H2 => ∃ a v, x = .ref a ∧ XGet K P w H2 a y (some v) ∧ Q v H2
def tXIn (K : PySem.W.Frag) (P : Program) (w : World) (ty td : TE) : TE := fun σ H Q => ty σ H fun y H1 => td σ H1 fun x H2 => ∃ a o, x = .ref a ∧ XGet K P w H2 a y o ∧ Q (.bl o.isSome) H2
def tXNotIn (K : PySem.W.Frag) (P : Program) (w : World) (ty td : TE) : TE := fun σ H Q => ty σ H fun y H1 => td σ H1 fun x H2 => ∃ a o, x = .ref a ∧ XGet K P w H2 a y o ∧ Q (.bl (!o.isSome)) H2
def sXPut (K : PySem.W.Frag) (P : Program) (w : World) (td ty tv : TE) : TS := fun D σ H => tv σ H fun v H1 => td σ H1 fun x H2 => ty σ H2 fun y H3 => ∃ a H4, x = .ref a ∧ XPut K P w H3 a y v H4 ∧ D.nx σ H4
def tXNew (P : Program) (w : World) : TE := fun _ H Q => (∀ p, H p = none → Q (.ref p) (upd H p (.dK []))) ∨ ∀ p, H p = none → Q (.ref p) (upd H p (NDO P w p []))
theorem ndo_empty {P : Program} {w : World} {H : Hp} (h : Heap) (hb : sysModules < h.objs.size) : ObjOk P w H (h.push { cls := .type "dict", data := .dict #[] }) h.objs.size (NDO P w h.objs.size []) :=
  ndo_ok ⟨Nat.zero_le _, beq_false_of_ne (Nat.ne_of_gt hb), [], .nil, _, #[], 0, Heap.get?_push_size _ rfl, ⟨rfl, rfl, rfl⟩, rfl, rfl, List.nodup_nil⟩
section
variable {X : Cx} {o i e value : Expr} {pos pos' tpos : Pos} {td ty tv : TE} {P : Program} {w : World} {K : PySem.W.Frag}
theorem pe_xnew (e1 : X.prog = P := by rfl) (e2 : X.w = w := by rfl) : PE X (.Dict [] [] pos) (tXNew P w) := by
  subst e1 e2
  refine ⟨fun pins s σ H Q I h => ?_⟩
  rcases h with h | h
  · exact wpAny_Dict_empty ⟨.ref s.heap.objs.size, _, I.laid (a := s.heap.objs.size) (o := .dK []) (t' := s.toks) (fun _ _ q => Heap.get?_push_of_some _ q) (Nat.le_refl _) (dk_empty s.heap I.big), rfl, h _ (I.hok.fresh (Nat.le_refl _))⟩
  · exact wpAny_Dict_empty ⟨.ref s.heap.objs.size, _, I.laid (a := s.heap.objs.size) (o := NDO X.prog X.w s.heap.objs.size []) (t' := s.toks) (fun _ _ q => Heap.get?_push_of_some _ q) (Nat.le_refl _) (ndo_empty s.heap I.big), rfl, h _ (I.hok.fresh (Nat.le_refl _))⟩
theorem pe_xget (K : PySem.W.Frag) (hu : X.A.units + 64 < cLine) (ho : PE X o td) (hi : PE X i ty) (hs : NoSl i) (e1 : X.prog = P := by rfl) (e2 : X.w = w := by rfl) (e3 : X.K = K := by rfl) : PE X (.Subscript o i pos) (tXGet K P w td ty) := by
  subst e1 e2 e3
  refine ⟨fun pins s σ H Q I h => ?_⟩
  refine subD_of PySem.F.slot_dict_getitem.lookup hs (thn (ho.run pins s σ H _ I h) fun u s1 ⟨x, H1, I1, rx, q1⟩ => thn (hi.run pins s1 σ H1 _ I1 q1) fun iv s2 ⟨y, H2, I2, ry, a, v, ex, g, q2⟩ => ?_)
  subst ex
  obtain rfl : u = Value.ref a := rx
  rcases g with g | g
  · exact ⟨dict_typeIs I2 g, d_getItem (by omega) I2 g ry fun w' s3 I3 rw' => ⟨v, H2, I3, rw', q2⟩⟩
  · exact ⟨nd_typeIs I2 g, nd_getItem hu I2 g ry fun w' s3 I3 rw' => ⟨v, H2, I3, rw', q2⟩⟩
theorem pc_xin (K : PySem.W.Frag) (hu : X.A.units + 64 < cLine) (hi : PE X i ty) (ho : PE X o td) (e1 : X.prog = P := by rfl) (e2 : X.w = w := by rfl) (e3 : X.K = K := by rfl) : PC X .In i o (tXIn K P w ty td) := by
  subst e1 e2 e3
  refine ⟨fun pins s σ H Q I h => ?_⟩
  refine thn (hi.run pins s σ H _ I h) fun iv s1 ⟨y, H1, I1, ry, q1⟩ => thn (ho.run pins s1 σ H1 _ I1 q1) fun u s2 ⟨x, H2, I2, rx, a, ov, ex, g, q2⟩ => ?_
  subst ex
  obtain rfl : u = Value.ref a := rx
  rcases g with g | g
  · exact d_in (by omega) I2 g ry fun s3 I3 => ⟨.bl ov.isSome, H2, I3, rfl, q2⟩
  · exact nd_in hu I2 g ry fun s3 I3 => ⟨.bl ov.isSome, H2, I3, rfl, q2⟩
theorem pc_xnotin (K : PySem.W.Frag) (hu : X.A.units + 64 < cLine) (hi : PE X i ty) (ho : PE X o td) (e1 : X.prog = P := by rfl) (e2 : X.w = w := by rfl) (e3 : X.K = K := by rfl) : PC X .NotIn i o (tXNotIn K P w ty td) := by
  subst e1 e2 e3
  refine ⟨fun pins s σ H Q I h => ?_⟩
  refine thn (hi.run pins s σ H _ I h) fun iv s1 ⟨y, H1, I1, ry, q1⟩ => thn (ho.run pins s1 σ H1 _ I1 q1) fun u s2 ⟨x, H2, I2, rx, a, ov, ex, g, q2⟩ => ?_
  subst ex
  obtain rfl : u = Value.ref a := rx
  rcases g with g | g
  · exact d_notIn (by omega) I2 g ry fun s3 I3 => ⟨.bl (!ov.isSome), H2, I3, rfl, q2⟩
  · exact nd_notIn hu I2 g ry fun s3 I3 => ⟨.bl (!ov.isSome), H2, I3, rfl, q2⟩
theorem ps_xput (K : PySem.W.Frag) (hu : X.A.units + 64 < cLine) (ho : PE X o td) (hi : PE X i ty) (hv : PE X value tv) (hs : swapsWith value (some (.Subscript o i pos')) pos.line X.env = pure false) (e1 : X.prog = P := by rfl) (e2 : X.w = w := by rfl) (e3 : X.K = K := by rfl) :
    PS X (.Assign [.Subscript o i pos'] value pos) (sXPut K P w td ty tv) := by
  subst e1 e2 e3
  refine ⟨fun pins s σ H D I h => ?_⟩
  refine wpAny_Assign_Subscript (thn (hv.run pins s σ H _ I h) fun r s1 ⟨v, H1, I1, rv, q1⟩ => thn (ho.run pins s1 σ H1 _ I1 q1) fun u s2 ⟨x, H2, I2, rx, q2⟩ => thn (hi.run pins s2 σ H2 _ I2 q2) fun iv s3 ⟨y, H3, I3, ry, a, H4, ex, g, q3⟩ => ?_) hs
  subst ex
  obtain rfl : u = Value.ref a := rx
  rcases g with g | g
  · exact d_setItem (by omega) I3 g ry rv fun s4 I4 => ⟨σ, H4, I4, q3⟩
  · exact nd_setItem hu I3 g ry rv fun s4 I4 => ⟨σ, H4, I4, q3⟩
/-- a display of one pair -/
def tXDisp (K : PySem.W.Frag) (P : Program) (w : World) (tk tv : TE) : TE := fun σ H Q => ∀ p, H p = none → tk σ (upd H p (NDO P w p [])) fun x H1 => tv σ H1 fun y H2 => H2 p = some (NDO P w p []) ∧ ∃ (b : Addr) (k : NestedKey), x = .ref b ∧ IsKey K H2 b k ∧ Q (.ref p) (upd H2 p (NDO P w p [(k, b, y)]))
theorem pe_xdisp (K : PySem.W.Frag) {k v : Expr} {tk tv : TE} (hu : X.A.units + 64 < cLine) (hk : PE X k tk) (hv : PE X v tv) (e1 : X.prog = P := by rfl) (e2 : X.w = w := by rfl) (e3 : X.K = K := by rfl) : PE X (.Dict [some k] [v] pos) (tXDisp K P w tk tv) := by
  subst e1 e2 e3
  constructor
  intro pins s σ H Q I q
  have hn := I.hok.fresh (Nat.le_refl s.heap.objs.size)
  have I1 := I.laid (a := s.heap.objs.size) (o := NDO X.prog X.w s.heap.objs.size []) (h' := s.heap.push { cls := .type "dict", data := .dict #[] }) (t' := s.toks) (fun _ _ z => Heap.get?_push_of_some _ z) (Nat.le_refl _) (ndo_empty s.heap I.big)
  rw [arm_eval_Dict, zip_pairTrees [some k] [v] X.env pos rfl rfl, dictDisplay_pairs (pairTrees [some k] [v] X.env pos) (by intro z; cases z) (by show 1 < 17; decide)]
  refine wpAny_bind (wpAny_standAt (wpAny_bind (wpAny_subDictH (knd := nestedKind X.prog X.w) (Q := fun d s' => wpAny (model X.prog X.w) X.A (pure (Value.ref d)) (EP X pins σ Q) X.xe s') ?_ (by show 1 ≤ 15; decide) ?_)))
  · show X.A.units + 8 < cLine
    omega
  refine pairTrees_cons_walk (thn (hk.run pins _ σ _ _ I1 (q _ hn)) ?_)
  rintro u s1 ⟨x, H1, I2, rx, q1⟩
  refine thn (hv.run pins s1 σ H1 _ I2 q1) ?_
  rintro w2 s2 ⟨y, H2, I3, ry, e, b, ks, rfl, eb, q2⟩
  refine pairTrees_nil_walk ?_
  obtain rfl : u = Value.ref b := rx
  obtain ⟨z, hd, xs, rel, dd⟩ := ND.of I3 ⟨e, fun _ z => nomatch z⟩
  cases rel
  refine ⟨[(ks, b, w2)], ⟨rfl, rfl, eb.is I3, trivial⟩, dd, fun h' tk' dd' hs => wpAny_pure ⟨.ref s.heap.objs.size, _, ?_, rfl, q2⟩⟩
  obtain ⟨o, es, ep, ho, h2, h3, h4, h5, h6⟩ := dd'
  exact d_write I3 (by rw [e]; exact True.intro) hs ⟨o, ho⟩ (ndo_ok ⟨by show 1 ≤ sizeLine; decide, hd, [(ks, b, w2)], .cons ⟨rfl, rfl, ry⟩ .nil, o, es, ep, ho, h2, h3, h4, h6⟩)
end
end WS
namespace WS
open PySem PySem.Spec PyProof.Rows L2 PySem.W
section
variable {X : Cx}
def rLtD (K : PySem.W.Frag) : R2 := fun x y H Q => ∃ d e, Dp K H x d ∧ Dp K H y e ∧ alike d e = true ∧ d ≠ .none ∧ d.depth ≤ 60 ∧ Q (.bl (dataLt d e)) H
def rLeD (K : PySem.W.Frag) : R2 := fun x y H Q => ∃ d e, Dp K H x d ∧ Dp K H y e ∧ alike d e = true ∧ d ≠ .none ∧ d.depth ≤ 60 ∧ Q (.bl (!dataLt e d)) H
def rGeD (K : PySem.W.Frag) : R2 := fun x y H Q => ∃ d e, Dp K H x d ∧ Dp K H y e ∧ alike d e = true ∧ d ≠ .none ∧ d.depth ≤ 60 ∧ Q (.bl (!dataLt d e)) H
theorem k_ltD (K : PySem.W.Frag) (hu : X.A.units + 64 < cLine) (e : X.K = K := by rfl) : OpR X (compareOp .Lt) (rLtD K) := by
  subst e
  intro pins s σ H x y v u Q I rx ry h
  obtain ⟨d, e, hd, he, al, nn, dp, q⟩ := h
  obtain ⟨as, r1⟩ := Dp.reads I d x v hd rx
  obtain ⟨bs, r2⟩ := Dp.reads I e y u he ry
  have z : min d.depth e.depth ≤ d.depth := Nat.min_le_left _ _
  exact lt_data r1 r2 al nn (by omega) ⟨.bl _, H, I, rfl, q⟩
theorem k_leD (K : PySem.W.Frag) (hu : X.A.units + 64 < cLine) (e : X.K = K := by rfl) : OpR X (compareOp .LtE) (rLeD K) := by
  subst e
  intro pins s σ H x y v u Q I rx ry h
  obtain ⟨d, e, hd, he, al, nn, dp, q⟩ := h
  obtain ⟨as, r1⟩ := Dp.reads I d x v hd rx
  obtain ⟨bs, r2⟩ := Dp.reads I e y u he ry
  have z : min d.depth e.depth ≤ d.depth := Nat.min_le_left _ _
  exact le_data r1 r2 al nn (by omega) ⟨.bl _, H, I, rfl, q⟩
theorem k_geD (K : PySem.W.Frag) (hu : X.A.units + 64 < cLine) (e : X.K = K := by rfl) : OpR X (compareOp .GtE) (rGeD K) := by
  subst e
  intro pins s σ H x y v u Q I rx ry h
  obtain ⟨d, e, hd, he, al, nn, dp, q⟩ := h
  obtain ⟨as, r1⟩ := Dp.reads I d x v hd rx
  obtain ⟨bs, r2⟩ := Dp.reads I e y u he ry
  have z : min d.depth e.depth ≤ d.depth := Nat.min_le_left _ _
  exact ge_data r1 r2 al nn (by omega) ⟨.bl _, H, I, rfl, q⟩
end
/-! ### sorted -/
theorem each_vals : ∀ {bs : List (V × PyData)} {us : List Value}, Vals (bs.map (·.1)) us → EachIs (fun (v : Value) (b : V × PyData) => RelV b.1 v) us bs
  | [], us, h => by
    cases h
    exact .nil
  | b :: bs, us, h => by
    cases h with
    | cons h1 h2 => exact .cons h1 (each_vals h2)
theorem vals_each : ∀ {bs : List (V × PyData)} {us : List Value}, EachIs (fun (v : Value) (b : V × PyData) => RelV b.1 v) us bs → Vals (bs.map (·.1)) us
  | _, _, .nil => .nil
  | _, _, .cons h t => .cons h (vals_each t)
theorem each_reads {X : Cx} {pins : List (Addr × Obj)} {σ : L2.St} {H : Hp} {s : Shared} (I : Inv X pins σ H s) : ∀ {bs : List (V × PyData)} {us : List Value}, Vals (bs.map (·.1)) us → (∀ b ∈ bs, Dp X.K H b.1 b.2) → EachIs (fun (v : Value) (b : V × PyData) => ∃ as, Reads s.heap v b.2 as) us bs
  | [], us, h, _ => by
    cases h
    exact .nil
  | b :: bs, us, h, k => by
    cases h with
    | cons h1 h2 => exact .cons (Dp.reads I _ _ _ (k b List.mem_cons_self) h1) (each_reads I h2 fun c hc => k c (List.mem_cons_of_mem _ hc))
mutual
theorem key_reads {h : Heap} : ∀ (d : PyData) (u : Value) (as : List Addr), isKey d = true → Reads h u d as → as = []
  | .none, _, _, _, r => by cases r; rfl
  | .bool _, _, _, _, r => by cases r; rfl
  | .int _, _, _, _, r => by cases r; rfl
  | .str _, _, _, _, r => by cases r; rfl
  | .list _, _, _, k, _ => by simp [isKey] at k
  | .dict _, _, _, k, _ => by simp [isKey] at k
  | .tuple ds, _, _, k, r => by
    cases r with
    | tuple _ _ _ r => exact keys_reads ds _ _ (by simpa [isKey] using k) r
theorem keys_reads {h : Heap} : ∀ (ds : List PyData) (us : List Value) (as : List Addr), areKeys ds = true → ReadsAll h us ds as → as = []
  | [], _, _, _, r => by cases r; rfl
  | d :: ds, _, _, k, r => by
    cases r with
    | cons r1 r2 =>
      simp only [areKeys, Bool.and_eq_true] at k
      rw [key_reads d _ _ k.1 r1, keys_reads ds _ _ k.2 r2]
      rfl
end
def srtD (bs : List (V × PyData)) : List (V × PyData) := bs.mergeSort (dataLe false (·.2))
structure Srt (K : PySem.W.Frag) (H : Hp) (bs : List (V × PyData)) : Prop where
  dp : ∀ b ∈ bs, Dp K H b.1 b.2
  al : AllAlike (bs.map (·.2))
  so : Sortable (bs.map (·.2))
  dep : ∀ b ∈ bs, b.2.depth ≤ 50
def rSortD (K : PySem.W.Frag) : List V → Hp → VK → Prop := fun vs H Q => ∃ (a : Addr) (bs : List (V × PyData)), vs = [.ref a] ∧ SqL K H a (bs.map (·.1)) ∧ Srt K H bs ∧ ∀ p, H p = none → Q (.ref p) (upd H p (.lst ((srtD bs).map (·.1))))
theorem k_sortD {X : Cx} (K : PySem.W.Frag) (hu : X.A.units + 64 < cLine) (e : X.K = K := by rfl) : CallR X (.builtin "sorted") (rSortD K) := by
  subst e
  intro pins s σ H vs us Q I r h
  obtain ⟨a, bs, rfl, hs, ⟨h1, h2, h3, h4⟩, q⟩ := h
  obtain ⟨its, rv, hl, hz⟩ := I.list hs
  rw [Vals.ref1 r]
  rw [List.length_map] at hz
  refine sorted_data (R := fun (v : Value) (b : V × PyData) => RelV b.1 v) (enc := fun b => b.2) hl.isList (each_vals rv) (each_reads I rv h1) h2 h3 hz (fun b hb => by have := h4 b hb; omega) fun out hlen ho => ?_
  obtain ⟨ep, he'⟩ := PyProof.Rows.sortedAll_at s.heap its out.toArray
  refine ⟨.ref _, upd H (s.heap.objs.size + 1) (.lst ((srtD bs).map (·.1))), I.laid (t' := s.toks) (fun _ _ => PyProof.Rows.sortedAll_old) (Nat.le_succ _) ⟨?_, out, ep, vals_each ho, he'⟩, rfl, q _ (I.hok.fresh (Nat.le_succ _))⟩
  unfold srtD
  rw [List.length_map, (List.mergeSort_perm bs _).length_eq]
  exact hz
/-- of the keys of a dict -/
def rSortN (K : PySem.W.Frag) (P : Program) (w : World) : List V → Hp → VK → Prop := fun vs H Q => ∃ (a : Addr) (xs : List NE) (bs : List (V × PyData)), vs = [.ref a] ∧ ND K P w H a xs ∧ bs.map (·.1) = xs.map (fun x => V.ref x.2.1) ∧ (∀ b ∈ bs, isKey b.2 = true) ∧ Srt K H bs ∧ ∀ p, H p = none → Q (.ref p) (upd H p (.lst ((srtD bs).map (·.1))))
theorem ND.raw {X : Cx} {pins : List (Addr × Obj)} {σ : L2.St} {H : Hp} {s : Shared} {a : Addr} {xs : List NE} (I : Inv X pins σ H s) (h : ND X.K X.prog X.w H a xs) : xs.length ≤ sizeLine ∧ (a == sysModules) = false ∧ ∃ (es : Array DictEntry) (ep : Nat), s.heap.DictRaw a es ep ∧ es.size = xs.length ∧
    ∀ (i : Nat) (hi : i < es.size), ∃ x, xs[i]? = some x ∧ es[i].key = .ref x.2.1 := by
  obtain ⟨z, hd, ys, rel, dd⟩ := h.of I
  obtain ⟨es, ep, hr, hs, he⟩ := dd.raw
  refine ⟨z, hd, es, ep, hr, hs.trans rel.length.symm, fun i hi => ?_⟩
  obtain ⟨y, hy, e1, _⟩ := he i hi
  have key : ∀ {xs : List NE} {ys : List (NestedKey × Addr × Value)}, Paired (fun (p : NE) (q : NestedKey × Addr × Value) => p.1 = q.1 ∧ p.2.1 = q.2.1 ∧ RelV p.2.2 q.2.2) xs ys → ∀ (i : Nat) y, ys[i]? = some y → ∃ x, xs[i]? = some x ∧ x.2.1 = y.2.1 := by
    intro xs ys r
    induction r with
    | nil => intro i y hy; simp at hy
    | cons h1 _ ih =>
      intro i y hy
      cases i with
      | zero =>
        rw [List.getElem?_cons_zero] at hy
        cases hy
        exact ⟨_, rfl, h1.2.1⟩
      | succ i => exact ih i y (by simpa using hy)
  obtain ⟨x, hx, e⟩ := key rel i y hy
  exact ⟨x, hx, by rw [e1, e]⟩
theorem refs_vals : ∀ {as : List Addr} {us : List Value}, us = as.map Value.ref → Vals (as.map V.ref) us
  | [], _, e => by subst e; exact .nil
  | a :: as, _, e => by subst e; exact .cons rfl (refs_vals rfl)
theorem acc_refs {xs : List NE} {es : Array DictEntry} {acc : Array Value} (hs : es.size = xs.length) (hx : ∀ (i : Nat) (hi : i < es.size), ∃ x, xs[i]? = some x ∧ es[i].key = .ref x.2.1)
    (ha : ItemsOf (fun i v => ∃ hi : i < es.size, v = es[i].key) acc es.size) : acc.toList = (xs.map (·.2.1)).map Value.ref := by
  refine List.ext_getElem? fun i => ?_
  by_cases hi : i < es.size
  · have h1 : i < acc.size := by rw [ha.1]; exact hi
    obtain ⟨hi', e⟩ := ha.2 i acc[i] (Array.getElem?_eq_getElem h1)
    obtain ⟨x, hx', e2⟩ := hx i hi
    rw [Array.getElem?_toList, Array.getElem?_eq_getElem h1, e, e2, List.getElem?_map, List.getElem?_map, hx']
    rfl
  · rw [List.getElem?_eq_none (by rw [Array.length_toList, ha.1]; omega), List.getElem?_eq_none (by rw [List.length_map, List.length_map]; omega)]
theorem k_sortN {X : Cx} (K : PySem.W.Frag) {P : Program} {w : World} (hc : X.calm = true) (hu : X.A.units + 64 < cLine) (e1 : X.prog = P := by rfl) (e2 : X.w = w := by rfl) (e : X.K = K := by rfl) : CallR X (.builtin "sorted") (rSortN K P w) := by
  subst e e1 e2
  intro pins s σ H vs us Q I r h
  obtain ⟨a, xs, bs, rfl, nd, eb, hk, ⟨h1, h2, h3, h4⟩, q⟩ := h
  rw [Vals.ref1 r]
  obtain ⟨z, lo, es, ep, hr, hs, hx⟩ := nd.raw I
  have lb : bs.length = xs.length := by
    have e := congrArg List.length eb
    rw [List.length_map, List.length_map] at e
    exact e
  refine Calls.call_function_entry PyProof.Rows.kind_sorted PyProof.Rows.plain_sorted PyProof.Rows.entry_sorted (PyProof.Rows.args_sorted1 _) ?_
  unfold Builtin.«sorted»
  refine wpAny_bind (m := checkCount "sorted" 1 1 _) (wpAny_pure ?_)
  refine wpAny_bind (kdu_collect (A := X.A.in1) (KdlSrc.rawDict (es := es) (ep := ep) lo) (I.ok.hd hc) hr (by rw [hs]; exact z) fun h' tk acc hkp hacc => ?_)
  have I1 : Inv X pins σ H { s with heap := h', toks := tk } := I.kept hkp
  have ea := acc_refs hs hx hacc
  have rv : Vals (bs.map (·.1)) acc.toList := by
    rw [eb, ea]
    have z := refs_vals (as := xs.map (·.2.1)) rfl
    rw [List.map_map (g := V.ref)] at z
    exact z
  have hal : acc.toList.length = xs.length := by rw [ea, List.length_map, List.length_map]
  refine wpAny_bind (wpAny_newList ?_ (by rw [hal]; exact z))
  have hoL : (h'.push (seqObj "list" acc.toList.toArray 0)).get? h'.objs.size = some (seqObj "list" acc.toList.toArray 0) := Heap.get?_push_size _ rfl
  show wpAny _ _ _ _ _ { s with heap := h'.push (seqObj "list" acc.toList.toArray 0), toks := tk }
  have er := each_reads I1 rv h1
  have er2 : EachIs (fun (v : Value) (b : V × PyData) => ∃ as, Reads (h'.push (seqObj "list" acc.toList.toArray 0)) v b.2 as ∧ h'.objs.size ∉ as) acc.toList bs := by
    refine EachIs.mono (R := fun v b => (∃ as, Reads h' v b.2 as) ∧ b ∈ bs) (fun v b hvb => ?_) (each_mem er)
    obtain ⟨⟨as, ra⟩, hb⟩ := hvb
    have ee := key_reads _ _ _ (hk b hb) ra
    subst ee
    exact ⟨[], PyProof.Rows.Reads.keeps (fun _ _ q => Heap.get?_push_of_some _ q) ra, List.not_mem_nil⟩
  refine wpAny_bind (wpAny_holding (list_sort_data (s := { s with heap := h'.push (seqObj "list" acc.toList.toArray 0), toks := tk }) (R := fun (v : Value) (b : V × PyData) => RelV b.1 v) (enc := fun b => b.2) hoL (each_vals rv) er2 h2 h3 (by rw [lb]; exact z) (fun b hb => ?_) fun out hlen ho => ?_))
  · have := h4 b hb
    show X.A.units + 1 + 1 + b.2.depth < cLine
    omega
  obtain ⟨e', he'⟩ := PyProof.Rows.sortedHeap_at (vs := acc.toList) (out := out.toArray) hoL
  have hlen2 : ((srtD bs).map (·.1)).length ≤ sizeLine := by
    unfold srtD
    rw [List.length_map, (List.mergeSort_perm bs _).length_eq, lb]
    exact z
  refine wpAny_pure ⟨_, rfl, .ref h'.objs.size, upd H h'.objs.size (.lst ((srtD bs).map (·.1))), I1.laid (t' := tk) (fun b u e => ?_) (Nat.le_refl _)
    (show ObjOk X.prog X.w _ _ _ (.lst ((srtD bs).map (·.1))) from ⟨hlen2, out, e', vals_each ho, he'⟩), rfl, q _ (I1.hok.fresh (Nat.le_refl _))⟩
  have hb : b < h'.objs.size := Heap.lt_size e
  rw [PyProof.Rows.sortedHeap_old (Nat.ne_of_lt hb) (by rw [size_push']; exact Nat.lt_succ_of_lt hb)]
  exact Heap.get?_push_of_some _ e
/-- list(d): its keys -/
def rListN (K : PySem.W.Frag) (P : Program) (w : World) : List V → Hp → VK → Prop := fun vs H Q => ∃ (a : Addr) (xs : List NE), vs = [.ref a] ∧ ND K P w H a xs ∧ ∀ p, H p = none → Q (.ref p) (upd H p (.lst (xs.map (fun x => V.ref x.2.1))))
theorem k_listN {X : Cx} (K : PySem.W.Frag) {P : Program} {w : World} (hc : X.calm = true) (e1 : X.prog = P := by rfl) (e2 : X.w = w := by rfl) (e : X.K = K := by rfl) : CallR X (.type "list") (rListN K P w) := by
  subst e e1 e2
  intro pins s σ H vs us Q I r h
  obtain ⟨a, xs, rfl, nd, q⟩ := h
  rw [Vals.ref1 r]
  obtain ⟨z, lo, es, ep, hr, hs, hx⟩ := nd.raw I
  refine kdl_call (KdlSrc.rawDict (es := es) (ep := ep) lo) (I.ok.hd hc) hr (by rw [hs]; exact z) fun h' tk acc c' hkp hD hacc => ?_
  have ea := acc_refs hs hx hacc
  refine ⟨.ref s.heap.objs.size, upd H s.heap.objs.size (.lst (xs.map (fun x => V.ref x.2.1))), I.laid (t' := tk) hkp (Nat.le_refl _) ⟨by rw [List.length_map]; exact z, acc.toList, c', ?_, by rw [Array.toArray_toList]; exact hD⟩, rfl, q _ (I.hok.fresh (Nat.le_refl _))⟩
  rw [ea]
  have z := refs_vals (as := xs.map (·.2.1)) rfl
  rw [List.map_map (g := V.ref)] at z
  exact z
end WS
namespace WS
open PySem PySem.Spec PyProof.Rows L2
mutual
/-- numbers and tuples alone -/
def isNum : NestedKey → Bool
  | .num _ => true
  | .tup ks => areNum ks
  | _ => false
def areNum : List NestedKey → Bool
  | [] => true
  | k :: ks => isNum k && areNum ks
end
section
variable {P : Program} {w : World}
abbrev nK (P : Program) (w : World) := nestedKind P w
/-- a pass over some values that all are answered alike -/
theorem pass_all {A : Around} {E : Value → Shared → Prop} {s : Shared} {β : Type} {c : Value → Sem β} {ans : β} {go : β → Option Bool × PUnit → Sem (ForInStep (Option Bool × PUnit))} {items : Array Value} {b : Bool} {Q : Bool → Shared → Prop} {fin : Option Bool × PUnit → Sem Bool}
    (hv : ∀ v ∈ items.toList, ∀ (Q : β → Shared → Prop), Q ans s → wpAny (model P w) A (c v) Q E s) (hg : ∀ r, go ans r = pure (ForInStep.yield (none, PUnit.unit))) (hf : fin (none, PUnit.unit) = pure b) (h : Q b s) :
    wpAny (model P w) A ((forIn items ((none : Option Bool), PUnit.unit) fun v r => do go (← c v) r) >>= fin) Q E s := by
  refine wpAny_bind ?_
  rw [← Array.forIn_toList]
  refine wpAny_forIn_list _ (fun rest r s' => r.1 = none ∧ s' = s ∧ ∀ v ∈ rest, v ∈ items.toList) _ ?_ ?_ _ _ ⟨rfl, rfl, fun _ z => z⟩
  · rintro v rest r s' ⟨hr, rfl, al⟩
    refine wpAny_bind (hv v (al v List.mem_cons_self) _ ?_)
    rw [hg]
    exact wpAny_pure ⟨rfl, rfl, fun z hz => al z (List.mem_cons_of_mem _ hz)⟩
  · rintro ⟨r1, r2⟩ s' ⟨hr, rfl, _⟩
    have hr : r1 = none := hr
    subst hr
    show wpAny (model P w) A (fin (none, PUnit.unit)) Q E s'
    rw [hf]
    exact wpAny_pure h
def Plain (P : Program) (w : World) (n : Nat) (s : Shared) (v : Value) : Prop := ∀ (A : Around) (E : Value → Shared → Prop) (Q : Bool → Shared → Prop), Q false s → wpAny (model P w) A (ofAClassStatement n v) Q E s
theorem plain_leaf {n : Nat} {s : Shared} {v : Value} (h : ∀ n, ofAClassStatement n v = pure false) : Plain P w n s v := fun A E Q q => by
  rw [h]
  exact wpAny_pure q
theorem plain_tup {n : Nat} {s : Shared} {a : Addr} {o : Obj} {vs : Array Value} {m : Nat} (ho : s.heap.get? a = some o) (hc : o.cls = .type "tuple") (hd : o.data = .seq vs m) (hq : ∀ v ∈ vs.toList, Plain P w n s v) : Plain P w (n + 1) s (.ref a) := fun A E Q q => by
  have hT : s.TypeIs (.ref a) "tuple" := ⟨o, ho, hc⟩
  unfold ofAClassStatement
  refine wpAny_bind (wpAny_typeOf hT ?_)
  simp only [beq_self_eq_true, if_true]
  refine wpAny_bind (wpAny_pure ?_)
  simp only [Bool.not_true, Bool.false_eq_true, if_false]
  refine wpAny_bind (wpAny_seqItems ho hd ?_)
  refine pass_all (c := ofAClassStatement n) (ans := false) (go := fun z _ => if z = true then pure (ForInStep.done (some true, PUnit.unit)) else pure (ForInStep.yield (none, PUnit.unit))) (fun v hv Q q => hq v hv A E Q q) (fun r => rfl) rfl q
def ByVal (P : Program) (w : World) (n : Nat) (s : Shared) (v : Value) : Prop := ∀ (A : Around) (E : Value → Shared → Prop) (Q : Bool → Shared → Prop), Q true s → wpAny (model P w) A (hashByValue n v) Q E s
theorem byval_leaf {n : Nat} {s : Shared} {v : Value} (h : ∀ n, hashByValue n v = pure true) : ByVal P w n s v := fun A E Q q => by
  rw [h]
  exact wpAny_pure q
theorem byval_tup {n : Nat} {s : Shared} {a : Addr} {o : Obj} {vs : Array Value} {m : Nat} (ho : s.heap.get? a = some o) (hc : o.cls = .type "tuple") (hd : o.data = .seq vs m) (hq : ∀ v ∈ vs.toList, ByVal P w n s v) : ByVal P w (n + 1) s (.ref a) := fun A E Q q => by
  have hT : s.TypeIs (.ref a) "tuple" := ⟨o, ho, hc⟩
  unfold hashByValue
  refine wpAny_bind (wpAny_specialOf hT F.slot_tuple_hash.lookup ?_)
  refine wpAny_bind (wpAny_seqItems ho hd ?_)
  refine pass_all (c := hashByValue n) (ans := true) (go := fun z _ => if (!z) = true then pure (ForInStep.done (some false, PUnit.unit)) else pure (ForInStep.yield (none, PUnit.unit))) (fun v hv Q q => hq v hv A E Q q) (fun r => rfl) rfl q
mutual
theorem plain_key : ∀ (k : NestedKey) (v : Value) (n : Nat) (s : Shared), NestedIs s.heap k v → k.depth ≤ n → Plain P w n s v
  | .none, _, n, s, x, _ => by cases x; exact plain_leaf fun n => by cases n <;> rfl
  | .num i, _, n, s, x, _ => by cases x <;> exact plain_leaf fun n => by cases n <;> rfl
  | .text y, _, n, s, x, _ => by cases x; exact plain_leaf fun n => by cases n <;> rfl
  | .tup ks, _, n, s, x, hn => by
    cases x with
    | tup hg hc hd hk =>
      simp only [NestedKey.depth] at hn
      cases n with
      | zero => omega
      | succ n => exact plain_tup hg hc hd (plain_keys ks _ n s hk (by omega))
theorem plain_keys : ∀ (ks : List NestedKey) (vs : List Value) (n : Nat) (s : Shared), NestedAll s.heap ks vs → NestedKey.depthAll ks ≤ n → ∀ v ∈ vs, Plain P w n s v
  | [], _, n, s, x, _, v, hv => by cases x; cases hv
  | k :: ks, _, n, s, x, hn, v, hv => by
    cases x with
    | cons x1 x2 =>
      simp only [NestedKey.depthAll] at hn
      rcases List.mem_cons.mp hv with e | hv
      · rw [e]; exact plain_key k _ n s x1 (by omega)
      · exact plain_keys ks _ n s x2 (by omega) v hv
end
mutual
theorem byval_key : ∀ (k : NestedKey) (v : Value) (n : Nat) (s : Shared), isNum k = true → NestedIs s.heap k v → k.depth ≤ n → ByVal P w n s v
  | .none, _, n, s, q, _, _ => by simp [isNum] at q
  | .num i, _, n, s, _, x, _ => by cases x <;> exact byval_leaf fun n => by cases n <;> rfl
  | .text y, _, n, s, q, _, _ => by simp [isNum] at q
  | .tup ks, _, n, s, q, x, hn => by
    cases x with
    | tup hg hc hd hk =>
      simp only [NestedKey.depth] at hn
      cases n with
      | zero => omega
      | succ n => exact byval_tup hg hc hd (byval_keys ks _ n s (by simpa [isNum] using q) hk (by omega))
theorem byval_keys : ∀ (ks : List NestedKey) (vs : List Value) (n : Nat) (s : Shared), areNum ks = true → NestedAll s.heap ks vs → NestedKey.depthAll ks ≤ n → ∀ v ∈ vs, ByVal P w n s v
  | [], _, n, s, _, x, _, v, hv => by cases x; cases hv
  | k :: ks, _, n, s, q, x, hn, v, hv => by
    cases x with
    | cons x1 x2 =>
      simp only [NestedKey.depthAll] at hn
      simp only [areNum, Bool.and_eq_true] at q
      rcases List.mem_cons.mp hv with e | hv
      · rw [e]; exact byval_key k _ n s q.1 x1 (by omega)
      · exact byval_keys ks _ n s q.2 x2 (by omega) v hv
end
end

/-! ### the set, as it is laid -/
abbrev NM := Addr × NestedKey
def kh (P : Program) (w : World) (k : NestedKey) : Int := (nestedKind P w).hash k
/-- a member: the tuple at its address -/
def Mem1 (P : Program) (w : World) (h : Heap) (p : NM) : Prop := (nestedKind P w).is h p.2 p.1 ∧ isNum p.2 = true
theorem Mem1.to {P : Program} {w : World} {h h' : Heap} {p : NM} (x : Mem1 P w h p) (k : ∀ b o vs n, h.get? b = some o → o.data = .seq vs n → h'.get? b = some o) : Mem1 P w h' p := ⟨nestedKind_stays.stays k x.1, x.2⟩
structure Laid (P : Program) (w : World) (h : Heap) (a : Addr) (L : List NM) (es : Array (Int × Value)) (ep : Nat) (t : SetTable) : Prop where
  obj : ∃ o, h.get? a = some o ∧ o.ExactSet ∧ o.data = .set es ep t
  ents : es.toList = L.map fun p => (kh P w p.2, Value.ref p.1)
  tab : TabOk t (L.map fun p => kh P w p.2)
  once : (L.map (·.2)).Nodup
  pl : t.plain = true
  ledO : w.params.followText "set-order" = true ∨ t.led = true
  space : L.length * 5 < t.mask * 3
  small : L.length < 64
section
variable {P : Program} {w : World} {A : Around} {E : Value → Shared → Prop} {s : Shared} {a : Addr} {L : List NM} {es : Array (Int × Value)} {ep : Nat} {t : SetTable}
theorem ents_len {L : List NM} {es : Array (Int × Value)} (h : es.toList = L.map fun p => (kh P w p.2, Value.ref p.1)) : es.size = L.length := by
  rw [← Array.length_toList, h, List.length_map]
theorem ents_at {L : List NM} {es : Array (Int × Value)} (h : es.toList = L.map fun p => (kh P w p.2, Value.ref p.1)) {i : Nat} {p : NM} (hp : L[i]? = some p) : es[i]? = some (kh P w p.2, Value.ref p.1) := by
  rw [← Array.getElem?_toList, h, List.getElem?_map, hp]
  rfl
theorem fits_of {t : SetTable} {n : Nat} (h1 : t.place.size = n) (h2 : t.dummies = #[]) (h3 : n ≤ t.mask) : t.fits n = true := by
  unfold SetTable.fits SetTable.fill
  rw [h2, h1]
  simp only [beq_self_eq_true, Bool.true_and, decide_eq_true_eq]
  exact h3
theorem Laid.szL (R : Laid P w s.heap a L es ep t) : t.place.size = L.length := by
  have z := R.tab.sz
  rwa [List.length_map] at z
theorem Laid.fit (R : Laid P w s.heap a L es ep t) : t.fits es.size = true := by
  rw [ents_len R.ents]
  have := R.space
  exact fits_of R.szL R.tab.dm (by omega)
theorem Laid.odd (R : Laid P w s.heap a L es ep t) : ¬ t.gaveWay = true := by
  unfold SetTable.gaveWay
  rw [mask_odd R.tab.mok]
  decide
/-- the probe at a step of the way -/
abbrev prb (m : Nat) (h : Int) (c : Nat) : SetTable.Probe := nth m (runAt m (SetTable.bits h % (m + 1)) (SetTable.bits h)) c
theorem prb_on (m : Nat) (h : Int) (c q : Nat) : nth m (prb m h c) q = prb m h (c + q) := (nth_add m c _ q).symm
theorem prb_clean (m : Nat) (h : Int) (c : Nat) : (prb m h c).dummy = none := by
  have step : ∀ (n : Nat) (p : SetTable.Probe), p.dummy = none → (nth m p n).dummy = none := by
    intro n
    induction n with
    | zero => exact fun p h => h
    | succ n ih =>
      refine fun p h => ih (adv m p) ?_
      unfold adv
      split <;> exact h
  exact step c _ rfl
/-- two tuples show nothing while they are compared -/
theorem unseen {x : Addr} {k : NestedKey} (hx : (nestedKind P w).is s.heap k x) {ys : List Value} (hy : ∀ y ∈ ys, ∃ p : NM, y = Value.ref p.1 ∧ (nestedKind P w).is s.heap p.2 p.1) {Q : Bool → Shared → Prop} (q : Q false s) :
    wpAny (model P w) A (searchCouldBeSeen (.ref x) ys) Q E s := by
  unfold searchCouldBeSeen
  refine wpAny_bind (wpAny_forIn_list _ (fun rest r s' => r.1 = none ∧ s' = s ∧ ∀ y ∈ rest, ∃ p : NM, y = Value.ref p.1 ∧ (nestedKind P w).is s.heap p.2 p.1) _ ?_ ?_ _ _ ⟨rfl, rfl, hy⟩)
  · rintro v rest r s' ⟨hr, rfl, al⟩
    obtain ⟨⟨c, k2⟩, rfl, hc⟩ := al v List.mem_cons_self
    have al' := fun u hu => al u (List.mem_cons_of_mem _ hu)
    dsimp only
    by_cases very : (x == c || (carriedByValue (.ref x) && carriedByValue (.ref c))) = true
    · exact wp_if_pos very (wpAny_pure ⟨rfl, rfl, al'⟩)
    · refine wp_if_neg very (wpAny_bind ((nestedKind P w).quiet hx ?_))
      simp only [Bool.not_true, Bool.false_eq_true, if_false]
      refine wpAny_bind ((nestedKind P w).quiet hc ?_)
      simp only [Bool.not_true, Bool.false_eq_true, if_false]
      refine wpAny_bind (plain_key _ _ 8 _ hx.1 hx.2 _ _ _ ?_)
      simp only [Bool.false_eq_true, if_false]
      refine wpAny_bind (plain_key _ _ 8 _ hc.1 hc.2 _ _ _ ?_)
      simp only [Bool.false_eq_true, if_false]
      exact wpAny_pure ⟨rfl, rfl, al'⟩
  · rintro ⟨r1, r2⟩ s' ⟨hr, rfl, _⟩
    cases (show r1 = none from hr)
    exact wpAny_pure q
theorem nsearch (R : Laid P w s.heap a L es ep t) (hm : ∀ p ∈ L, (nestedKind P w).is s.heap p.2 p.1) {x : Addr} {k : NestedKey} (hx : (nestedKind P w).is s.heap k x) (hu : A.units + 8 < cLine) {K : Nat} (hK1 : K < 10 * SetTable.turns t.mask)
    (hK2 : way t.mask (kh P w k) K ∉ t.place.toList) (hK3 : ∀ c, c < K → way t.mask (kh P w k) c ∈ t.place.toList) {Q : SetFound → Shared → Prop}
    (yes : k ∈ L.map (·.2) → Q (.there none) s) (no : k ∉ L.map (·.2) → Q (.free (way t.mask (kh P w k) K) false) s) :
    ∀ (f c : Nat) (stand : Option SetTable.Probe), stand.getD (t.probeStart (kh P w k)) = prb t.mask (kh P w k) c → c ≤ K → K - c < f →
      (∀ (i : Nat) (p : NM), L[i]? = some p → p.2 = k → ∃ d, c ≤ d ∧ d < K ∧ t.place.toList[i]? = some (way t.mask (kh P w k) d)) →
      wpAny (model P w) A (setSearchFrom a (.ref x) (kh P w k) true f stand) Q E s := by
  intro f
  induction f with
  | zero => exact fun c stand _ _ h => absurd h (Nat.not_lt_zero _)
  | succ f ih =>
    intro c stand hst hcK hf ahead
    obtain ⟨o, ho, hex, hd⟩ := R.obj
    have slots : ∀ q, (nth t.mask (prb t.mask (kh P w k) c) q).j = way t.mask (kh P w k) (c + q) := fun q => congrArg (·.j) (prb_on t.mask (kh P w k) c q)
    have found := go_spec t R.tab.ris R.tab.dm (fun i => (es[i]?.map (·.1)).getD 0) (kh P w k) (10 * SetTable.turns t.mask) (K - c) (prb t.mask (kh P w k) c) (prb_clean _ _ _) (by omega)
      (fun q hq => by rw [slots]; exact hK3 (c + q) (by omega)) (by rw [slots, show c + (K - c) = K by omega]; exact hK2)
    have hashOf : ∀ (i : Nat) (p : NM), L[i]? = some p → (es[i]?.map (·.1)).getD 0 = kh P w p.2 := fun i p hp => by
      rw [ents_at R.ents hp]
      rfl
    rw [setSearchFrom_succ]
    refine wpAny_bind (wpAny_setState_of ho hd R.fit ?_)
    dsimp only
    refine wp_if_neg R.odd ?_
    try refine wpAny_bind (wpAny_pure ?_)
    rcases found with ⟨q, i, hq, hi, hh, before, hp⟩ | ⟨before, hp⟩
    · have hp' : t.probe (fun i => (es[i]?.map (·.1)).getD 0) (kh P w k) (stand.getD (t.probeStart (kh P w k))) = some (.candidate (way t.mask (kh P w k) (c + q)) i (prb t.mask (kh P w k) (c + (q + 1)))) := by
        rw [hst, ← slots, ← prb_on]
        exact hp
      rw [hp']
      dsimp only
      rw [slots] at hi
      have il : i < L.length := by
        have h1 := (List.getElem?_eq_some_iff.mp hi).1
        have h2 := R.szL
        rw [Array.length_toList] at h1
        omega
      obtain ⟨p, hpi⟩ : ∃ p, L[i]? = some p := ⟨_, List.getElem?_eq_getElem il⟩
      have pm : p ∈ L := List.mem_of_getElem? hpi
      have go : wpAny (model P w) A (searchRest a (.ref x) (kh P w k) true f es t (way t.mask (kh P w k) (c + q)) i (prb t.mask (kh P w k) (c + (q + 1)))) Q E s := by
        unfold searchRest
        rw [ents_at R.ents hpi]
        dsimp only
        refine wpAny_bind (wpAny_holding ((nestedKind P w).eqBool (show A.units + 8 < cLine from hu) (hm p pm) hx ?_))
        refine wpAny_bind (wpAny_setState_of ho hd R.fit ?_)
        dsimp only
        by_cases same : p.2 = k
        · exact wp_if_pos (by simp [same]) (wpAny_pure (yes (List.mem_map.mpr ⟨p, pm, same⟩)))
        · refine wp_if_neg (by simp [same]) ?_
          try refine wpAny_bind (wpAny_pure ?_)
          have sl : t.slot (way t.mask (kh P w k) (c + q)) = .live i := slot_live R.tab.ris hi
          rw [sameMem]
          simp only [if_true, sl, ents_at R.ents hpi]
          refine wpAny_bind (wpAny_isSame_ref_self (wpAny_bind (wpAny_pure ?_)))
          simp only [if_true]
          refine wp_if_neg (by simp [same]) (ih (c + (q + 1)) _ rfl (by omega) (by omega) fun i2 p2 h2 e2 => ?_)
          obtain ⟨d, d1, d2, d3⟩ := ahead i2 p2 h2 e2
          refine ⟨d, ?_, d2, d3⟩
          by_cases lt : d < c + q
          · refine absurd ((hashOf i2 p2 h2).trans (congrArg (kh P w) e2)) (before (d - c) i2 (by omega) ?_)
            rw [slots, show c + (d - c) = d by omega]
            exact d3
          · by_cases eq : d = c + q
            · rw [eq] at d3
              have s2 := slot_live R.tab.ris d3
              rw [sl] at s2
              cases s2
              rw [hpi] at h2
              cases h2
              exact absurd e2 same
            · omega
      by_cases ld : t.led = true
      · refine wp_if_neg (by simp [ld]) ?_
        try refine wpAny_bind (wpAny_pure ?_)
        exact go
      · refine wp_if_pos (by simp [ld]) (wpAny_bind (unseen hx (fun y hy => ?_) ?_))
        · obtain ⟨e, he, rfl⟩ := List.mem_map.mp hy
          have he2 : e ∈ es.toList := by
            have z : e ∈ es ∧ e.1 = kh P w k := by simpa using he
            simpa using z.1
          rw [R.ents] at he2
          obtain ⟨p2, hp2, rfl⟩ := List.mem_map.mp he2
          exact ⟨p2, rfl, hm p2 hp2⟩
        · refine wp_if_neg (by decide) ?_
          try refine wpAny_bind (wpAny_pure ?_)
          exact go
    · have hp' : t.probe (fun i => (es[i]?.map (·.1)).getD 0) (kh P w k) (stand.getD (t.probeStart (kh P w k))) = some (.empty (way t.mask (kh P w k) K) none) := by
        have z := slots (K - c)
        rw [show c + (K - c) = K by omega] at z
        rw [hst, ← z]
        exact hp
      rw [hp']
      dsimp only
      refine wpAny_pure (no fun hin => ?_)
      obtain ⟨p, pm, pe⟩ := List.mem_map.mp hin
      obtain ⟨i, hi⟩ := List.getElem?_of_mem pm
      obtain ⟨d, d1, d2, d3⟩ := ahead i p hi pe
      refine before (d - c) i (by omega) ?_ ((hashOf i p hi).trans (congrArg (kh P w) pe))
      rw [slots, show c + (d - c) = d by omega]
      exact d3
theorem nfind (R : Laid P w s.heap a L es ep t) (hm : ∀ p ∈ L, (nestedKind P w).is s.heap p.2 p.1) {x : Addr} {k : NestedKey} (hx : (nestedKind P w).is s.heap k x) (hu : A.units + 8 < cLine) {Q : SetFound → Shared → Prop}
    (yes : k ∈ L.map (·.2) → Q (.there none) s)
    (no : ∀ K, k ∉ L.map (·.2) → way t.mask (kh P w k) K ∉ t.place.toList → (∀ c, c < K → way t.mask (kh P w k) c ∈ t.place.toList) → Q (.free (way t.mask (kh P w k) K) false) s) :
    wpAny (model P w) A (setSearch a (.ref x) (kh P w k) true) Q E s := by
  have sp := R.space
  obtain ⟨K, k1, k2, k3⟩ := R.tab.first (by rw [List.length_map]; omega) (kh P w k)
  have few : 10 * SetTable.turns t.mask ≤ 1420 := by
    unfold SetTable.turns
    rcases R.tab.mok with e | e | e <;> omega
  unfold setSearch
  refine nsearch R hm hx hu k1 k2 k3 yes (fun z => no K z k2 k3) 100000 0 none rfl (Nat.zero_le _) (by omega) fun i p hp pe => ?_
  have e1 : (L.map fun p => kh P w p.2)[i]? = some (kh P w k) := by
    rw [List.getElem?_map, hp, ← pe]
    rfl
  have il : i < t.place.toList.length := by
    have h1 := (List.getElem?_eq_some_iff.mp hp).1
    have h2 := R.szL
    rw [Array.length_toList]
    omega
  obtain ⟨c, hc, e⟩ := R.tab.before k2 e1 (List.getElem?_eq_getElem il)
  exact ⟨c, Nat.zero_le _, hc, by rw [List.getElem?_eq_getElem il, e]⟩
end

theorem range_all {α : Type} : ∀ (L : List α), (List.range L.length).filterMap (fun i => L[i]?) = L
  | [] => rfl
  | x :: L => by
    rw [List.length_cons, List.range_succ_eq_map, List.filterMap_cons_some (f := fun i => (x :: L)[i]?) (b := x) (a := 0) rfl, List.filterMap_map]
    exact congrArg (x :: ·) (range_all L)
section
variable {P : Program} {w : World} {A : Around} {E : Value → Shared → Prop} {s : Shared}
theorem reorder {L : List NM} {es : Array (Int × Value)} {order : Array Nat} (he : es.toList = L.map fun p => (kh P w p.2, Value.ref p.1)) (hp : order.toList.Perm (List.range L.length)) :
    ∃ L2 : List NM, (order.filterMap (es[·]?)).toList = (L2.map fun p => (kh P w p.2, Value.ref p.1)) ∧ L2.Perm L ∧ (L2.map fun p => kh P w p.2) = order.toList.map fun i => (es.map (·.1)).getD i 0 := by
  have at_ : ∀ i, es[i]? = (L[i]?).map fun (p : NM) => (kh P w p.2, Value.ref p.1) := fun i => by rw [← Array.getElem?_toList, he, List.getElem?_map]
  refine ⟨order.toList.filterMap fun i => L[i]?, ?_, ?_, ?_⟩
  · rw [Array.toList_filterMap, List.map_filterMap]
    congr 1
    funext i
    exact at_ i
  · have z := hp.filterMap fun i => L[i]?
    rw [range_all] at z
    exact z
  · have key : ∀ l : List Nat, (∀ i ∈ l, i < L.length) → ((l.filterMap fun i => L[i]?).map fun p => kh P w p.2) = l.map fun i => (es.map (·.1)).getD i 0 := by
      intro l
      induction l with
      | nil => intro _; rfl
      | cons i l ih =>
        intro hl
        have il := hl i List.mem_cons_self
        rw [List.filterMap_cons_some (List.getElem?_eq_getElem il), List.map_cons, List.map_cons, ih fun j hj => hl j (List.mem_cons_of_mem _ hj)]
        congr 1
        have e : (es.map (·.1))[i]? = some (kh P w (L[i]).2) := by
          rw [Array.getElem?_map, at_, List.getElem?_eq_getElem il]
          rfl
        rw [Array.getD_eq_getD_getElem?, e]
        rfl
    exact key _ fun i hi => List.mem_range.mp (hp.mem_iff.mp hi)
theorem Mem1.but {h h' : Heap} {a : Addr} {o : Obj} {es : Array (Int × Value)} {ep : Nat} {t : SetTable} {p : NM} (x : Mem1 P w h p) (ho : h.get? a = some o) (hd : o.data = .set es ep t) (sb : Heap.SameBut a h h') : Mem1 P w h' p :=
  x.to fun b ob vs n e1 e2 => by
    refine (sb.2 b ?_).trans e1
    rintro rfl
    rw [ho] at e1
    cases e1
    rw [hd] at e2
    cases e2
variable {a : Addr} {L : List NM} {es : Array (Int × Value)} {ep : Nat} {t : SetTable}
theorem nrelay {o : Obj} (ho : s.heap.get? a = some o) (hex : o.ExactSet) (hd : o.data = .set es ep t) (he : es.toList = L.map fun p => (kh P w p.2, Value.ref p.1)) (hsz : t.place.size = es.size) (hdm : t.dummies = #[]) (hle : es.size ≤ t.mask)
    (once : (L.map (·.2)).Nodup) (pl : t.plain = true) (ld : w.params.followText "set-order" = true ∨ t.led = true) (small : L.length < 64) {wanted M : Nat} (hw : SetTable.sizeAbove wanted - 1 = M) (hM : MaskOk M) (hw2 : SetTable.sizeAbove wanted ≤ 128)
    (space : L.length * 5 < M * 3) {Q : Unit → Shared → Prop} (hQ : ∀ h' L' es' ep' t', Heap.SameBut a s.heap h' → Laid P w h' a L' es' ep' t' → L'.Perm L → Q () { s with heap := h' }) : wpAny (model P w) A (setRelay a wanted) Q E s := by
  have hn := ents_len he
  obtain ⟨t', order, er, hp, T, em, el, epl, ed⟩ := relaid_ok t (hs := es.map (·.1)) (wanted := wanted) hw hM (by rw [Array.size_map, hn]; omega)
  rw [Array.size_map, hn] at hp
  obtain ⟨L2, r1, r2, r3⟩ := reorder he hp
  rw [← r3] at T
  have n2 : (order.filterMap (es[·]?)).size = es.size := by
    rw [← Array.length_toList, r1, List.length_map, r2.length_eq, hn]
  rw [setRelay_eq]
  refine wpAny_bind (wpAny_setState_of ho hd (fits_of hsz hdm hle) ?_)
  dsimp only
  refine wp_if_neg (by rw [sizeLine_eq]; omega) ?_
  try refine wpAny_bind (wpAny_pure ?_)
  rw [er]
  dsimp only
  refine wpAny_bind ?_
  refine wp_if_neg (by rw [n2]; simp) ?_
  try refine wpAny_bind (wpAny_pure ?_)
  refine wpAny_pure ?_
  dsimp only
  refine wpAny_storeSet_of ho hd ?_ (by rw [n2, hn, sizeLine_eq]; omega)
  have sb : Heap.SameBut a s.heap (s.heap.update a (Obj.putSet (order.filterMap (es[·]?)) t')) := Heap.SameBut.update ..
  exact hQ _ L2 (order.filterMap (es[·]?)) (ep + 1) t' sb { obj := ⟨_, store_at ho hd, ⟨hex.1, hex.2.1, hex.2.2⟩, rfl⟩, ents := r1, tab := T, once := (r2.map (·.2)).nodup_iff.mpr once, pl := by rw [epl]; exact pl, ledO := by rw [el]; exact ld, space := by rw [r2.length_eq, em]; exact space, small := by rw [r2.length_eq]; exact small } r2
theorem nadd (R : Laid P w s.heap a L es ep t) (hm : ∀ p ∈ L, Mem1 P w s.heap p) {x : Addr} {k : NestedKey} (hx : Mem1 P w s.heap (x, k)) (hu : A.units + 8 < cLine) (few : L.length + 1 < 64) {Q : Bool → Shared → Prop}
    (hQ : ∀ b h' L' es' ep' t', Heap.SameBut a s.heap h' → Laid P w h' a L' es' ep' t' → (k ∈ L.map (·.2) → L' = L) → (k ∉ L.map (·.2) → L'.Perm ((x, k) :: L)) → Q b { s with heap := h' }) :
    wpAny (model P w) A (setAddHashed a (.ref x) (kh P w k)) Q E s := by
  obtain ⟨o, ho, hex, hd⟩ := R.obj
  have hn := ents_len R.ents
  have hsp := R.space
  unfold setAddHashed
  refine wpAny_holding ?_
  rw [show (100000 : Nat) = 99999 + 1 from rfl, setAddHashedIn_succ]
  refine wpAny_bind (wpAny_setState_of ho hd R.fit ?_)
  dsimp only
  refine wp_if_neg (by simp [byScan, Value.scannable]) ?_
  try refine wpAny_bind (wpAny_pure ?_)
  refine wpAny_bind (nfind R (fun p hp => (hm p hp).1) hx.1 hu (fun hin => ?_) fun K out k2 k3 => ?_)
  · exact wpAny_pure (hQ false s.heap L es ep t (Heap.SameBut.refl a s.heap) R (fun _ => rfl) fun z => absurd hin z)
  · dsimp only
    refine wpAny_bind (wpAny_setState_of ho hd R.fit ?_)
    dsimp only
    obtain ⟨c1, c2, c3, c4, c5, c6, c7, c8, c9⟩ := R.tab.put k2 k3
    have pl1 : (t.put (way t.mask (kh P w k) K)).1.plain = true := by rw [c6]; exact R.pl
    generalize t.put (way t.mask (kh P w k) K) = pt at c1 c3 c4 c5 c6 c7 c8 c9 pl1 ⊢
    obtain ⟨t1, j⟩ := pt
    dsimp only at c1 c3 c4 c5 c6 c7 c8 c9 pl1 ⊢
    subst c1
    first
      | (refine wpAny_bind ?_; refine wp_if_pos pl1 ?_; refine byval_key _ _ 8 _ hx.2 hx.1.1 hx.1.2 _ _ _ ?_)
      | refine wp_if_pos pl1 (wpAny_bind (byval_key _ _ 8 _ hx.2 hx.1.1 hx.1.2 _ _ _ ?_))
    simp only [if_true]
    generalize SetTable.below t.place (way t.mask (kh P w k) K) = j at c2 c3 ⊢
    have pm : (L.take j ++ (x, k) :: L.drop j).Perm ((x, k) :: L) := by
      have z : (L.take j ++ (x, k) :: L.drop j).Perm ((x, k) :: (L.take j ++ L.drop j)) := List.perm_middle
      rwa [List.take_append_drop] at z
    have ents1 : (SetTable.insertAt es j (kh P w k, Value.ref x)).toList = (L.take j ++ (x, k) :: L.drop j).map fun p => (kh P w p.2, Value.ref p.1) := by
      rw [SetTable.toList_insertAt, R.ents, List.map_append, List.map_cons, List.map_take, List.map_drop]
    have hs1 : ((L.take j ++ (x, k) :: L.drop j).map fun p => kh P w p.2) = (L.map fun p => kh P w p.2).take j ++ kh P w k :: (L.map fun p => kh P w p.2).drop j := by
      rw [List.map_append, List.map_cons, List.map_take, List.map_drop]
    rw [← hs1] at c3
    generalize SetTable.insertAt es j (kh P w k, Value.ref x) = es1 at ents1 ⊢
    generalize L.take j ++ (x, k) :: L.drop j = L1 at pm c3 ents1
    have l1 : L1.length = L.length + 1 := pm.length_eq
    have n1 : es1.size = L.length + 1 := by rw [ents_len ents1, l1]
    have once1 : (L1.map (·.2)).Nodup := by
      refine (pm.map (·.2)).nodup_iff.mpr ?_
      rw [List.map_cons]
      exact List.nodup_cons.mpr ⟨out, R.once⟩
    have ld1 : w.params.followText "set-order" = true ∨ t1.led = true := by rw [c5]; exact R.ledO
    refine wpAny_bind (wpAny_storeSet_of ho hd ?_ (by rw [n1, sizeLine_eq]; omega))
    have sb : Heap.SameBut a s.heap (s.heap.update a (Obj.putSet es1 t1)) := Heap.SameBut.update ..
    have ho1 := store_at (es' := es1) (t' := t1) ho hd
    generalize s.heap.update a (Obj.putSet es1 t1) = h1 at sb ho1 ⊢
    have full : t1.tooFull = true ↔ (L.length + 1) * 5 ≥ t1.mask * 3 := by
      unfold SetTable.tooFull
      rw [decide_eq_true_eq, c9, List.length_map]
    by_cases hf : t1.tooFull = true
    · have hf2 := full.mp hf
      first
        | (refine wpAny_bind ?_; refine wp_if_pos (by simp [hf]) ?_)
        | (refine wp_if_pos (by simp [hf]) ?_; refine wpAny_bind ?_)
      rw [hn]
      have two : (t.mask = 7 ∧ L.length = 4) ∨ (t.mask = 31 ∧ L.length = 18) := by
        rcases R.tab.mok with e | e | e <;> rw [e] at hsp <;> rw [c4, e] at hf2
        · exact .inl ⟨e, by omega⟩
        · exact .inr ⟨e, by omega⟩
        · omega
      have p1 : t1.place.size = es1.size := by
        have z := c3.sz
        rw [List.length_map] at z
        rw [z, l1, n1]
      have le1 : es1.size ≤ t1.mask := by
        rw [n1, c4]
        rcases two with ⟨e, e2⟩ | ⟨e, e2⟩ <;> omega
      have go : ∀ M, SetTable.sizeAbove (SetTable.grown (L.length + 1)) - 1 = M → MaskOk M → SetTable.sizeAbove (SetTable.grown (L.length + 1)) ≤ 128 → (L.length + 1) * 5 < M * 3 →
          wpAny (model P w) A (setRelay a (SetTable.grown (L.length + 1))) (fun _ s' => wpAny (model P w) A (pure true) Q E s') E { s with heap := h1 } := fun M m1 m2 m3 m4 =>
        nrelay (s := { s with heap := h1 }) ho1 ⟨hex.1, hex.2.1, hex.2.2⟩ rfl ents1 p1 c3.dm le1 once1 pl1 ld1 (by omega) m1 m2 m3 (by rw [l1]; exact m4)
          fun h2 L2 es2 ep2 t2 sb2 R2 pm2 => wpAny_pure (hQ true h2 L2 es2 ep2 t2 (sb.trans sb2) R2 (fun z => absurd z out) fun _ => pm2.trans pm)
      rcases two with ⟨_, e⟩ | ⟨_, e⟩
      · exact go 31 (by rw [e, size_20]) (.inr (.inl rfl)) (by rw [e, size_20]; decide) (by omega)
      · exact go 127 (by rw [e, size_76]) (.inr (.inr rfl)) (by rw [e, size_76]; decide) (by omega)
    · have hf2 : ¬ (L.length + 1) * 5 ≥ t1.mask * 3 := fun z => hf (full.mpr z)
      first
        | refine wp_if_neg (by simp [hf]) ?_
        | (refine wpAny_bind ?_; refine wp_if_neg (by simp [hf]) ?_; refine wpAny_pure ?_)
      exact wpAny_pure (hQ true h1 L1 es1 (ep + 1) t1 sb { obj := ⟨_, ho1, ⟨hex.1, hex.2.1, hex.2.2⟩, rfl⟩, ents := ents1, tab := c3, once := once1, pl := pl1, ledO := ld1, space := by rw [l1]; omega, small := by omega } (fun z => absurd z out) fun _ => pm)
end
end WS
namespace WS
open PySem PySem.Spec PyProof.Rows L2
abbrev bare (w : World) : Obj := { cls := .type "set", dict := none, data := .set #[] 0 (.fresh 0 0 (!w.params.followText "set-order")) }
/-- what a set holds when its items have been put in up to one, whatever the items are -/
structure Filling (P : Program) (w : World) (A : Around) (S : Addr) (items : List Value) (h0 : Heap) (G : Nat → Heap → Prop) : Prop where
  start : ∀ h, h.get? S = some (bare w) → (∀ b o, h0.get? b = some o → h.get? b = some o) → G 0 h
  frame : ∀ i h h', G i h → (∀ o, h.get? S = some o → h'.get? S = some o) → (∀ b o, h0.get? b = some o → h'.get? b = some o) → G i h'
  add : ∀ (i : Nat) (v : Value) (s : Shared) (E : Value → Shared → Prop) (Q : Bool → Shared → Prop), items[i]? = some v → G i s.heap → (∀ b o, h0.get? b = some o → s.heap.get? b = some o) →
    (∀ b h' tk, Heap.SameBut S s.heap h' → G (i + 1) h' → s.toks ≤ tk → Q b { s with heap := h', toks := tk }) → wpAny (model P w) A (setAdd S v) Q E s
section
variable {P : Program} {w : World} {A : Around} {E : Value → Shared → Prop} {s : Shared}
theorem fill_loop {I S : Addr} {fp wr : List Addr} {Gs : Array GenState → Array GenState → Prop} {n : Nat} {Pv : Nat → Value → Prop} {St : Nat → Shared → Prop} {R : Result → Shared → Prop} {items : List Value} {h0 : Heap} {G : Nat → Heap → Prop}
    (W : WalksS P w A.in1 I fp wr Gs n Pv St) (F1 : Filling P w A.in1 S items h0 G) (hS : S ∉ fp) (hv : ∀ i v, Pv i v → items[i]? = some v) (hS0 : h0.get? S = none) (hw0 : ∀ b ∈ wr, h0.get? b = none) :
    ∀ (d i : Nat) (s : Shared), n - i = d → i ≤ n → St i s → (∀ b o, h0.get? b = some o → s.heap.get? b = some o) → G i s.heap →
      (∀ s', Moved (S :: wr) Gs s s' → G n s'.heap → (∀ b o, h0.get? b = some o → s'.heap.get? b = some o) → R (.ok (.ret .none)) s') →
      codeAny (model P w) A (.builtin "set.update.loop" ⟨[.ref S, .ref I], []⟩) R s := by
  have hSw : S ∉ wr := fun z => hS (W.sub _ z)
  have more : ∀ b ∈ wr, b ∈ S :: wr := fun b z => List.mem_cons_of_mem _ z
  have kept : ∀ {s1 s2 : Shared}, Moved wr Gs s1 s2 → (∀ b o, h0.get? b = some o → s1.heap.get? b = some o) → ∀ b o, h0.get? b = some o → s2.heap.get? b = some o := fun mv k b o e =>
    mv.heap b o (fun z => by rw [hw0 b z] at e; cases e) (k b o e)
  intro d
  induction d with
  | zero =>
    intro i s ed hi st k g fin
    obtain rfl : i = n := by omega
    refine codeAny_builtin F.entry_set_update_loop ?_
    rw [Around.under_plainId F.plain_set_update_loop _]
    show wpAny _ A.in1 (pyNext (.ref I) >>= _) _ _ s
    refine wpAny_bind (W.done s _ _ st fun s1 mv => ?_)
    show wpAny _ A.in1 (ret Value.none) _ _ s1
    have k1 := kept mv k
    exact wpAny_pure (fin s1 (mv.mono more) (F1.frame i _ _ g (fun o e => mv.heap S o hSw e) k1) k1)
  | succ d ih =>
    intro i s ed hi st k g fin
    have lt : i < n := by omega
    refine codeAny_builtin F.entry_set_update_loop ?_
    rw [Around.under_plainId F.plain_set_update_loop _]
    show wpAny _ A.in1 (pyNext (.ref I) >>= _) _ _ s
    refine wpAny_bind (W.item i s _ _ lt st fun v s1 pv st1 mv => ?_)
    have k1 := kept mv k
    show wpAny _ A.in1 (holding [v] (setAdd S v) >>= _) _ _ s1
    refine wpAny_bind (wpAny_holding (F1.add i v s1 _ _ (hv i v pv) (F1.frame i _ _ g (fun o e => mv.heap S o hSw e) k1) k1 fun b h' tk sb g' ht => ?_))
    have off : ∀ b, b ≠ S → h'.get? b = s1.heap.get? b := fun b hb => sb.2 b hb
    have k2 : ∀ b o, h0.get? b = some o → h'.get? b = some o := fun b o e => (off b (fun z => by rw [z, hS0] at e; cases e)).trans (k1 b o e)
    refine wpAny_pure ⟨plainId_quiet F.plain_set_update_loop _, ih (i + 1) _ (by omega) lt (W.frame _ s1 _ _ st1 ht fun b hb o e => ?_) k2 g' fun s2 mv2 g2 k3 => ?_⟩
    · rw [off b (fun z => hS (by rw [← z]; exact hb))]
      exact e
    · refine fin s2 (Moved.trans W.gtrans ((mv.mono more).then_heap ht fun b o hb e => ?_) mv2) g2 k3
      rw [off b (fun z => hb (by rw [z]; exact List.mem_cons_self))]
      exact e
set_option maxHeartbeats 6400000 in
theorem call_fill {l : Addr} {items : Array Value} {G : Nat → Heap → Prop} {Q : Value → Shared → Prop} (hh : A.handled = none) (hl : s.heap.IsList l items) (F1 : ∀ A' : Around, A'.units ≤ A.units + 4 → Filling P w A' s.heap.objs.size items.toList s.heap G)
    (h : ∀ (h' : Heap) (tk : Nat), G items.size h' → (∀ b o, s.heap.get? b = some o → h'.get? b = some o) → Q (.ref s.heap.objs.size) { s with heap := h', toks := tk }) :
    wpAny (model P w) A (call (.type "set") [.ref l]) Q E s := by
  obtain ⟨c, tl, hmro⟩ := F.called_set.mro
  have hmade := F.called_set.made
  have hsub := F.called_set.sub
  have fresh0 : ∀ b, s.heap.objs.size ≤ b → s.heap.get? b = none := fun b hb => by
    cases q : s.heap.get? b with
    | none => rfl
    | some o => exact absurd (Nat.lt_of_lt_of_le (Heap.lt_size q) hb) (Nat.lt_irrefl _)
  refine wpAny_call (codeAny_of_tree ?_)
  show wpAny _ _ (callAny (.type "set") _) _ _ _
  refine wpAny_pure ⟨Code.quiet_builtin _ (by decide +kernel), codeAny_builtin F.entry_type_call ?_⟩
  rw [Around.under_plain (weight_type_call_type "set" [.ref l] []) rfl]
  have h1 := F.called_set.notType
  have h2 := F.called_set.canCreate
  have hct := F.typeCall_set_1 (.ref l)
  repeat (any_goals (first | assumption | wp_step))
  refine codeAny_mono (code_set_led1 (.ref l) (E := E) (Q₁ := fun obj s₁ => obj = .ref s.heap.objs.size ∧ s₁ = { s with heap := s.heap.push (bare w) }) ⟨rfl, rfl⟩) fun r s₁ hr => ?_
  cases r with
  | error e => exact hr
  | ok fl =>
    cases fl with
    | ret obj =>
      obtain ⟨rfl, rfl⟩ := hr
      have hS : (s.heap.push (bare w)).get? s.heap.objs.size = some (bare w) := Heap.get?_push_size _ rfl
      have hT : Shared.TypeIs { s with heap := s.heap.push (bare w) } (.ref s.heap.objs.size) "set" := ⟨_, hS, rfl⟩
      have hli := F.called_set.init.lookup
      have hbi := F.called_set.init.bind (.ref s.heap.objs.size)
      repeat (any_goals (first | assumption | wp_step))
      refine codeAny_mono (codeAny_call_builtin (R := wants (fun r s₂ => r = .none ∧ ∃ h' tk, s₂ = { s with heap := h', toks := tk } ∧ G items.size h' ∧ (∀ b o, s.heap.get? b = some o → h'.get? b = some o)) E) F.called_set.init.plain F.entry_set_init (check_set_init_1 hT ?_)) fun r₂ s₂ hr₂ => ?_
      · obtain ⟨ol, hol, hcl, nl, hdl⟩ := hl
        obtain ⟨ocls, odict, odata, oslots⟩ := ol
        simp only at hcl hdl
        subst hcl hdl
        have hol' : (s.heap.push (bare w)).get? l = some { cls := .type "list", dict := odict, data := .seq items nl, slots := oslots } := Heap.get?_push_of_some _ hol
        have hsls := F.sub_list_set
        have hslf := F.sub_list_frozenset
        have hne : (Value.type "list" == Value.type "dict") = false := by decide
        have hl1 : (s.heap.push (bare w)).IsList l items := ⟨_, hol', rfl, nl, rfl⟩
        unfold Builtin.«set.__init__» noKeywords Builtin.Frozenset.updateFrom
        generalize hPI : pyIter = PI
        wp_walk
        subst hPI
        refine wpAny_pyIter_list hl1 ?_
        refine wpAny_bind (wpAny_runValue ?_)
        have hlS : l < s.heap.objs.size := Heap.lt_size hol
        have hh3 : A.in1.in1.in1.handled = none := by simp [hh]
        have sz : (s.heap.push (bare w)).objs.size = s.heap.objs.size + 1 := Heap.size_push ..
        have hlI : l ≠ (s.heap.push (bare w)).objs.size := by rw [sz]; exact Nat.ne_of_lt (Nat.lt_succ_of_lt hlS)
        have hSf : s.heap.objs.size ∉ [(s.heap.push (bare w)).objs.size, l] := by
          rw [sz]
          simp only [List.mem_cons, List.not_mem_nil, or_false, not_or]
          exact ⟨Nat.ne_of_lt (Nat.lt_succ_self _), Nat.ne_of_gt hlS⟩
        have k1 : ∀ b o, s.heap.get? b = some o → ((s.heap.push (bare w)).push { cls := .type "list_iterator", data := .fields #[.ref l, .int 0 0] }).get? b = some o := fun b o e => Heap.get?_push_of_some _ (Heap.get?_push_of_some _ e)
        have FF := F1 A.in1.in1.in1 (by show A.units + 1 + 1 + 1 ≤ A.units + 4; omega)
        refine fill_loop ((Walks.list hh3 _ l hlI items).toS) FF hSf (fun i v e => by rw [Array.getElem?_toList]; exact e) (fresh0 _ (Nat.le_refl _)) (fun b hb => fresh0 b (by rw [List.mem_singleton.mp hb, sz]; exact Nat.le_succ _)) (items.size - 0) 0 _ (by omega) (Nat.zero_le _)
          ⟨⟨_, Heap.get?_push_size _ rfl, rfl, rfl⟩, (hl1.push _)⟩ k1 (FF.start _ (Heap.get?_push_of_some _ hS) k1) fun s2 mv g2 k2 => ?_
        obtain ⟨h', g', d', tk', os'⟩ := s2
        have eg : g' = s.gens := mv.gens
        have ed : d' = s.drawn := mv.drawn
        have eo : os' = s.os := mv.os
        subst eg ed eo
        refine wpAny_pure ?_
        show wpAny _ _ (ret Value.none) _ _ _
        exact wpAny_pure ⟨rfl, h', tk', rfl, g2, k2⟩
      · cases r₂ with
        | error e => exact hr₂
        | ok fl₂ =>
          cases fl₂ with
          | ret r =>
            obtain ⟨rfl, h', tk, rfl, g', k'⟩ := hr₂
            repeat (any_goals (first | assumption | wp_step))
            exact h _ _ g' k'
          | _ => exact hr₂.elim
    | _ => exact hr.elim
end
end WS
namespace WS
open PySem PySem.Spec PyProof.Rows L2
section
variable {α : Type} [DecidableEq α]
def addk (ks : List α) (k : α) : List α := if k ∈ ks then ks else ks ++ [k]
def dist (xs : List α) : List α := xs.foldl addk []
theorem addk_mem {ks : List α} {k x : α} : x ∈ addk ks k ↔ x ∈ ks ∨ x = k := by
  unfold addk
  split
  · next h =>
    constructor
    · exact .inl
    · rintro (z | rfl)
      · exact z
      · exact h
  · rw [List.mem_append, List.mem_singleton]
theorem addk_nodup {ks : List α} (k : α) (h : ks.Nodup) : (addk ks k).Nodup := by
  unfold addk
  split
  · exact h
  · next c =>
    rw [List.nodup_append]
    exact ⟨h, by simp, fun x hx y hy e => by
      rw [List.mem_singleton.mp hy] at e
      rw [e] at hx
      exact c hx⟩
theorem dist_snoc (xs : List α) (x : α) : dist (xs ++ [x]) = addk (dist xs) x := by
  unfold dist
  rw [List.foldl_append]
  rfl
theorem foldl_mem : ∀ (xs ks : List α) (x : α), x ∈ xs.foldl addk ks ↔ x ∈ ks ∨ x ∈ xs
  | [], ks, x => by simp
  | y :: xs, ks, x => by
    rw [List.foldl_cons, foldl_mem xs, addk_mem, List.mem_cons]
    constructor
    · rintro ((z | z) | z)
      · exact .inl z
      · exact .inr (.inl z)
      · exact .inr (.inr z)
    · rintro (z | z | z)
      · exact .inl (.inl z)
      · exact .inl (.inr z)
      · exact .inr z
theorem dist_mem {xs : List α} {x : α} : x ∈ dist xs ↔ x ∈ xs := by
  unfold dist
  rw [foldl_mem]
  simp
theorem foldl_nodup : ∀ (xs ks : List α), ks.Nodup → (xs.foldl addk ks).Nodup
  | [], ks, h => h
  | y :: xs, ks, h => foldl_nodup xs _ (addk_nodup y h)
theorem dist_nodup (xs : List α) : (dist xs).Nodup := foldl_nodup xs [] List.nodup_nil
theorem addk_len (ks : List α) (k : α) : (addk ks k).length ≤ ks.length + 1 := by
  unfold addk
  split
  · omega
  · rw [List.length_append]; exact Nat.le_refl _
theorem foldl_len : ∀ (xs ks : List α), (xs.foldl addk ks).length ≤ ks.length + xs.length
  | [], ks => Nat.le_refl _
  | y :: xs, ks => by
    rw [List.foldl_cons, List.length_cons]
    have := foldl_len xs (addk ks y)
    have := addk_len ks y
    omega
theorem dist_len (xs : List α) : (dist xs).length ≤ xs.length := by
  have z := foldl_len xs ([] : List α)
  rw [List.length_nil, Nat.zero_add] at z
  exact z
end
/-! ### tracked -/
def NSO (P : Program) (w : World) (a : Addr) (L : List NM) : HO := .ext fun h => ∃ es ep t, Laid P w h a L es ep t
theorem Laid.at' {P : Program} {w : World} {h h' : Heap} {a : Addr} {L : List NM} {es : Array (Int × Value)} {ep : Nat} {t : SetTable} (R : Laid P w h a L es ep t) (k : ∀ o, h.get? a = some o → h'.get? a = some o) : Laid P w h' a L es ep t :=
  { obj := let ⟨o, e, r⟩ := R.obj; ⟨o, k o e, r⟩, ents := R.ents, tab := R.tab, once := R.once, pl := R.pl, ledO := R.ledO, space := R.space, small := R.small }
theorem nso_ok {P : Program} {w : World} {H : Hp} {h : Heap} {a : Addr} {L : List NM} {es : Array (Int × Value)} {ep : Nat} {t : SetTable} (R : Laid P w h a L es ep t) : ObjOk P w H h a (NSO P w a L) :=
  ⟨⟨es, ep, t, R⟩, let ⟨o, e, _⟩ := R.obj; ⟨o, e⟩, fun h1 h2 p k => let ⟨es, ep, t, R⟩ := p; ⟨es, ep, t, R.at' k⟩⟩
theorem laid_fresh {P : Program} {w : World} {h : Heap} {a : Addr} (ho : h.get? a = some (bare w)) : Laid P w h a [] #[] 0 (.fresh 0 0 (!w.params.followText "set-order")) where
  obj := ⟨_, ho, ⟨rfl, rfl, rfl⟩, rfl⟩
  ents := rfl
  tab := ⟨List.Pairwise.nil, rfl, rfl, .inl rfl, fun x hx => (nomatch hx), fun i h j hi => (by simp at hi)⟩
  once := List.nodup_nil
  pl := rfl
  ledO := by
    show _ ∨ (!w.params.followText "set-order") = true
    cases w.params.followText "set-order"
    · exact .inr rfl
    · exact .inl rfl
  space := by show 0 * 5 < 7 * 3; decide
  small := by show 0 < 64; decide
/-- a set of ints -/
structure SetI (w : World) (H : Hp) (a : Addr) (ks : List Int) : Prop where
  once : ks.Nodup
  ex : ∃ S, H a = some (SetO w a S ks.length) ∧ ∀ j, S j = true ↔ j ∈ ks
/-- a set of tuples -/
structure SetN (K : PySem.W.Frag) (P : Program) (w : World) (H : Hp) (a : Addr) (ks : List NestedKey) : Prop where
  once : ks.Nodup
  ex : ∃ L : List NM, H a = some (NSO P w a L) ∧ (∀ p ∈ L, IsKey K H p.1 p.2 ∧ isNum p.2 = true) ∧ (L.map (·.2)).Perm ks
theorem keys_add {L L' : List NM} {ks : List NestedKey} {x : Addr} {k : NestedKey} (pm : (L.map (·.2)).Perm ks) (h1 : k ∈ L.map (·.2) → L' = L) (h2 : k ∉ L.map (·.2) → L'.Perm ((x, k) :: L)) : (L'.map (·.2)).Perm (addk ks k) := by
  unfold addk
  by_cases c : k ∈ L.map (·.2)
  · rw [h1 c, if_pos (pm.mem_iff.mp c)]
    exact pm
  · rw [if_neg fun z => c (pm.mem_iff.mpr z)]
    exact ((h2 c).map fun (p : NM) => p.2).trans ((List.Perm.cons k pm).trans (List.perm_append_singleton k ks).symm)
theorem sub_add {L L' ks : List NM} {x : NM} (hs : ∀ p ∈ L, p ∈ ks) (hx : x ∈ ks) (h1 : x.2 ∈ L.map (·.2) → L' = L) (h2 : x.2 ∉ L.map (·.2) → L'.Perm (x :: L)) : ∀ p ∈ L', p ∈ ks := by
  by_cases c : x.2 ∈ L.map (·.2)
  · rw [h1 c]
    exact hs
  · intro p hp
    rcases List.mem_cons.mp ((h2 c).mem_iff.mp hp) with rfl | z
    · exact hx
    · exact hs p z
theorem get_take {α : Type} {l : List α} {i : Nat} {x : α} (h : l[i]? = some x) : l.take (i + 1) = l.take i ++ [x] := by
  rw [List.take_succ, h]
  rfl
theorem fill_n {P : Program} {w : World} {A : Around} {h0 : Heap} {S : Addr} (ks : List NM) (hk : ∀ p ∈ ks, Mem1 P w h0 p) (hS0 : h0.get? S = none) (hl : ks.length < 60) (hu : A.units + 8 < cLine) :
    Filling P w A S (ks.map fun p => Value.ref p.1) h0 (fun i h => ∃ L es ep t, Laid P w h S L es ep t ∧ (∀ p ∈ L, p ∈ ks) ∧ (L.map (·.2)).Perm (dist ((ks.take i).map (·.2)))) where
  start := fun h e k => ⟨[], #[], 0, _, laid_fresh e, fun _ z => (nomatch z), .refl _⟩
  frame := fun i h h' g k _ => let ⟨L, es, ep, t, R, a, b⟩ := g; ⟨L, es, ep, t, R.at' k, a, b⟩
  add := fun i v s E Q hv g k fin => by
    obtain ⟨L, es, ep, t, R, sub, pm⟩ := g
    rw [List.getElem?_map] at hv
    cases hp : ks[i]? with
    | none => rw [hp] at hv; cases hv
    | some p =>
      rw [hp] at hv
      obtain rfl : Value.ref p.1 = v := Option.some.inj hv
      have m1 : ∀ q ∈ ks, Mem1 P w s.heap q := fun q hq => (hk q hq).to fun b o vs n e _ => k b o e
      have pk := List.mem_of_getElem? hp
      unfold setAdd
      refine wpAny_holding (wpAny_bind ((nestedKind P w).pyHash (show A.units + 8 < cLine from hu) (m1 p pk).1 ?_))
      have ll : L.length ≤ i := by
        have z := pm.length_eq
        rw [List.length_map] at z
        have z2 := dist_len ((ks.take i).map (·.2))
        rw [List.length_map, List.length_take] at z2
        omega
      have il := (List.getElem?_eq_some_iff.mp hp).1
      refine nadd (s := { s with toks := s.toks + (nestedKind P w).draws p.2 }) (k := p.2) (x := p.1) R (fun q hq => m1 q (sub q hq)) (m1 p pk) hu (by omega) fun b h' L' es' ep' t' sb R' c1 c2 => ?_
      refine fin b h' _ sb ⟨L', es', ep', t', R', sub_add (x := p) sub pk c1 c2, ?_⟩ (Nat.le_add_right _ _)
      rw [get_take hp, List.map_append]
      show (L'.map (·.2)).Perm (dist ((ks.take i).map (·.2) ++ [p.2]))
      rw [dist_snoc]
      exact keys_add pm c1 c2
theorem fill_i {P : Program} {w : World} {A : Around} {h0 : Heap} {S : Addr} {ns : List Int} {vs : List Value} (hv : Vals (ns.map V.int) vs) (hl : ns.length < 4000) :
    Filling P w A S vs h0 (fun i h => ∃ f, SetR w h S f (dist (ns.take i)).length ∧ ∀ j, f j = true ↔ j ∈ dist (ns.take i)) where
  start := fun h e k => ⟨_, setR_new_at (ns := ns) e, fun j => by
    rw [dist_mem]
    exact decide_eq_true_iff⟩
  frame := fun i h h' g k _ => let ⟨f, R, a⟩ := g; ⟨f, R.at k, a⟩
  add := fun i v s E Q e g k fin => by
    obtain ⟨f, R, hf⟩ := g
    obtain ⟨n, hn, t, rfl⟩ : ∃ n, ns[i]? = some n ∧ ∃ t, v = Value.int n t := by
      have z : ∀ {ns : List Int} {vs : List Value}, Vals (ns.map V.int) vs → ∀ (i : Nat) v, vs[i]? = some v → ∃ n, ns[i]? = some n ∧ ∃ t, v = Value.int n t := by
        intro ns
        induction ns with
        | nil =>
          intro vs h i v e
          cases h
          simp at e
        | cons n ns ih =>
          intro vs h i v e
          cases h with
          | cons h1 h2 =>
            cases i with
            | zero =>
              rw [List.getElem?_cons_zero] at e
              cases e
              obtain ⟨t, rfl⟩ := h1
              exact ⟨n, rfl, t, rfl⟩
            | succ i => exact ih h2 i v (by simpa using e)
      exact z hv i v e
    have il := (List.getElem?_eq_some_iff.mp hn).1
    have dl : (dist (ns.take i)).length ≤ i := by
      have z2 := dist_len (ns.take i)
      rw [List.length_take] at z2
      omega
    unfold setAdd
    refine wpAny_holding (wpAny_bind ((intKind P w).pyHash (intKind_is P w n t) ?_))
    refine setR_add_hashed (s := { s with toks := s.toks + 1 }) R (by unfold scanBound; omega) fun h' sb R' => fin (!f n) h' _ sb ⟨fun j => f j || decide (j = n), ?_, fun j => ?_⟩ (Nat.le_succ _)
    · rw [get_take hn, dist_snoc]
      have z : (addk (dist (ns.take i)) n).length = if f n = true then (dist (ns.take i)).length else (dist (ns.take i)).length + 1 := by
        unfold addk
        by_cases c : n ∈ dist (ns.take i)
        · rw [if_pos c, if_pos ((hf n).mpr c)]
        · rw [if_neg c, if_neg fun z => c ((hf n).mp z), List.length_append]
          rfl
      rw [z]
      exact R'
    · rw [get_take hn, dist_snoc, addk_mem, ← hf j]
      simp
/-! ### set(list) -/
def rSetX (K : PySem.W.Frag) (P : Program) (w : World) : List V → Hp → VK → Prop := fun xs H Q => ∃ l, xs = [V.ref l] ∧
  ((∃ ns : List Int, SqL K H l (ns.map V.int) ∧ ns.length < 4000 ∧ ∀ p o, H p = none → SetI w (upd H p o) p (dist ns) → Q (.ref p) (upd H p o)) ∨
   (∃ ks : List NM, SqL K H l (ks.map fun p => V.ref p.1) ∧ ks.length < 60 ∧ (∀ p ∈ ks, IsKey K H p.1 p.2 ∧ isNum p.2 = true) ∧ ∀ p o, H p = none → SetN K P w (upd H p o) p (dist (ks.map (·.2))) → Q (.ref p) (upd H p o)))
theorem IsKey.new {K : PySem.W.Frag} {H : Hp} {b p : Addr} {k : NestedKey} {o : HO} (x : IsKey K H b k) (h : H p = none) : IsKey K (upd H p o) b k := x.same (same_new h o)
theorem k_setX {X : Cx} (K : PySem.W.Frag) {P : Program} {w : World} (hc : X.calm = true) (hu : X.A.units + 64 < cLine) (e1 : X.prog = P := by rfl) (e2 : X.w = w := by rfl) (e : X.K = K := by rfl) : CallR X (.type "set") (rSetX K P w) := by
  subst e e1 e2
  intro pins s σ H xs us Q I r h
  obtain ⟨l, rfl, h⟩ := h
  rw [Vals.ref1 r]
  have hn : H s.heap.objs.size = none := I.hok.fresh (Nat.le_refl _)
  have n0 : s.heap.get? s.heap.objs.size = none := by
    cases q : s.heap.get? s.heap.objs.size with
    | none => rfl
    | some o => exact absurd (Heap.lt_size q) (Nat.lt_irrefl _)
  rcases h with ⟨ns, hl, h4, q⟩ | ⟨ks, hl, h6, hk, q⟩
  · obtain ⟨its, rv, pl, hz⟩ := I.list hl
    refine call_fill (P := X.prog) (w := X.w) (I.ok.hd hc) pl.isList (fun A' _ => fill_i rv h4) fun h' tk g k => ?_
    obtain ⟨f, R, hf⟩ := g
    have sz : its.toArray.size = ns.length := by rw [List.size_toArray, ← rv.length, List.length_map]
    rw [sz, List.take_length] at R hf
    exact ⟨.ref s.heap.objs.size, upd H s.heap.objs.size (SetO X.w s.heap.objs.size f (dist ns).length), I.laid (t' := tk) k (Nat.le_refl _) (setO_new R), rfl, q _ _ hn ⟨dist_nodup ns, f, upd_same, hf⟩⟩
  · obtain ⟨its, rv, pl, hz⟩ := I.list hl
    have ei : its = ks.map fun p => Value.ref p.1 := by
      have z : ∀ {ks : List NM} {us : List Value}, Vals (ks.map fun p => V.ref p.1) us → us = ks.map fun p => Value.ref p.1 := by
        intro ks
        induction ks with
        | nil => intro us h; cases h; rfl
        | cons k ks ih =>
          intro us h
          cases h with
          | cons h1 h2 =>
            rw [ih h2]
            cases (show _ = Value.ref k.1 from h1)
            rfl
      exact z rv
    subst ei
    refine call_fill (P := X.prog) (w := X.w) (I.ok.hd hc) pl.isList (fun A' ha => fill_n (P := X.prog) (w := X.w) (A := A') ks (fun p hp => ⟨(hk p hp).1.is I, (hk p hp).2⟩) n0 h6 (by omega)) fun h' tk g k => ?_
    obtain ⟨L, es, ep, t, R, sub, pm⟩ := g
    have sz : (ks.map fun p => Value.ref p.1).toArray.size = ks.length := by rw [List.size_toArray, List.length_map]
    rw [sz, List.take_length] at pm
    exact ⟨.ref s.heap.objs.size, upd H s.heap.objs.size (NSO X.prog X.w s.heap.objs.size L), I.laid (t' := tk) k (Nat.le_refl _) (nso_ok R), rfl, q _ _ hn ⟨dist_nodup _, L, upd_same, fun p hp => ⟨(hk p (sub p hp)).1.new hn, (hk p (sub p hp)).2⟩, pm⟩⟩
/-! ### len -/
def rLenX (K : PySem.W.Frag) (P : Program) (w : World) : List V → Hp → VK → Prop := fun xs H Q => ∃ p, xs = [V.ref p] ∧ ((∃ ks, SetI w H p ks ∧ ks.length < 4000 ∧ Q (.int ks.length) H) ∨ ∃ ks, SetN K P w H p ks ∧ Q (.int ks.length) H)
theorem k_lenX {X : Cx} (K : PySem.W.Frag) {P : Program} {w : World} (e1 : X.prog = P := by rfl) (e2 : X.w = w := by rfl) (e : X.K = K := by rfl) : CallR X (.builtin "len") (rLenX K P w) := by
  subst e e1 e2
  intro pins s σ H xs us Q I r h
  obtain ⟨p, rfl, h⟩ := h
  rw [Vals.ref1 r]
  rcases h with ⟨ks, ⟨_, f, ha, _⟩, hl, q⟩ | ⟨ks, ⟨_, L, ha, _, pm⟩, q⟩
  · obtain ⟨o, es, ep, t, ho, hex, hd, _, _, _, _, hf, hn, _⟩ := setO_get I ha
    exact call_len_set ho hex hd hf (by rw [hn] <;> omega) ⟨.int ks.length, H, I.tok _, ⟨_, by rw [hn]⟩, q⟩
  · obtain ⟨es, ep, t, R⟩ := (I.hok p _ ha).1
    have z := R.obj
    obtain ⟨o, ho, hex, hd⟩ := z
    have hn : es.size = ks.length := by
      rw [ents_len R.ents, ← pm.length_eq, List.length_map]
    have sm := R.small
    have l2 := ents_len R.ents
    exact call_len_set ho hex hd (Laid.fit (s := s) R) (by omega) ⟨.int ks.length, H, I.tok _, ⟨_, by rw [hn]⟩, q⟩
end WS
namespace WS
open PySem PySem.Spec PyProof.Rows L2
/-- one more member, by what it is; Nx: what must hold behind -/
def rAddX (K : PySem.W.Frag) (P : Program) (w : World) (D : Addr) (y : V) (H : Hp) (Nx : Hp → Prop) : Prop :=
  (∃ ks k, y = .int k ∧ SetI w H D ks ∧ ks.length < 4000 ∧ ∀ o, SetI w (upd H D o) D (addk ks k) → Nx (upd H D o)) ∨
  ∃ ks b k, y = .ref b ∧ SetN K P w H D ks ∧ IsKey K H b k ∧ isNum k = true ∧ ks.length < 60 ∧ ∀ o, SetN K P w (upd H D o) D (addk ks k) → Nx (upd H D o)
/-- the set object stands where the tuples do not -/
theorem IsKey.upd {K : PySem.W.Frag} {H : Hp} {b a : Addr} {k : NestedKey} {φ : Heap → Prop} {o : HO} (x : IsKey K H b k) (ha : H a = some (.ext φ)) : IsKey K (upd H a o) b k := x.mono fun c xs z => by
  rcases z with (z | ⟨u, z⟩) | z
  · exact .inl (.inl (by rw [upd_ne (ne_of z ha (by intro q; cases q))]; exact z))
  · exact .inl (.inr ⟨u, by rw [upd_ne (ne_of z ha (by intro q; cases q))]; exact z⟩)
  · exact .inr z
theorem add_ok {X : Cx} {pins : List (Addr × Obj)} {σ : L2.St} {H : Hp} {s : Shared} {E : Value → Shared → Prop} {D : Addr} {y : V} {u : Value} {Nx : Hp → Prop} (hu : X.A.units + 64 < cLine) (I : Inv X pins σ H s) (r : RelV y u) (h : rAddX X.K X.prog X.w D y H Nx) :
    wpAny (model X.prog X.w) X.A (call (.builtin "set.add") [.ref D, u]) (fun _ s' => ∃ H', Inv X pins σ H' s' ∧ Nx H') E s := by
  rcases h with ⟨ks, k, rfl, ⟨once, f, ha, hf⟩, hl, q⟩ | ⟨ks, b, k, rfl, ⟨once, L, ha, hL, pm⟩, hb, hn, hl, q⟩
  · obtain ⟨t, rfl⟩ := r
    have R := setO_get I ha
    refine setR_add R (by unfold scanBound; omega) fun h' sb new => ?_
    have he : ∃ u, h'.get? D = some u := by
      have ⟨o, _, _, _, ho, _⟩ := new
      exact ⟨o, ho⟩
    have el : (addk ks k).length = if f k = true then ks.length else ks.length + 1 := by
      unfold addk
      by_cases c : k ∈ ks
      · rw [if_pos c, if_pos ((hf k).mpr c)]
      · rw [if_neg c, if_neg fun z => c ((hf k).mp z), List.length_append]
        rfl
    rw [← el] at new
    refine ⟨_, I.write (e := D) (t' := s.toks + 1) (by rw [ha]; trivial) (.inl rfl) (fun b u hb hu => (sb.2 b hb).trans hu) he (setO_new new), q _ ⟨addk_nodup k once, _, upd_same, fun j => ?_⟩⟩
    rw [addk_mem, ← hf j]
    simp
  · cases (show u = Value.ref b from r)
    obtain ⟨es, ep, t, R⟩ := (I.hok D _ ha).1
    have z := R.obj
    obtain ⟨o0, ho0, hx0, hd0⟩ := z
    have hT : s.TypeIs (.ref D) "set" := ⟨o0, ho0, hx0.1⟩
    have m0 : ∀ p ∈ L, Mem1 X.prog X.w s.heap p := fun p hp => ⟨(hL p hp).1.is I, (hL p hp).2⟩
    have mb : Mem1 X.prog X.w s.heap (b, k) := ⟨hb.is I, hn⟩
    have ll : L.length = ks.length := by rw [← pm.length_eq, List.length_map]
    refine wpAny_call_entry F.slot_set_add hT F.entry_set_add ?_ (F.args_set_add_2 _ _)
    unfold Builtin.«set.add» Builtin.Frozenset.oneOther
    simp only [List.isEmpty_nil, bind_assoc]
    unfold Builtin.Frozenset.addrOf setAdd
    refine wpAny_bind (wpAny_pure ?_)
    try dsimp only
    refine wpAny_bind (wpAny_pure ?_)
    try dsimp only
    refine wpAny_bind (wpAny_holding (wpAny_bind ((nestedKind X.prog X.w).pyHash (k := k) (show X.A.units + 1 + 8 < cLine by omega) (hb.is I) ?_)))
    refine nadd (s := { s with toks := s.toks + (nestedKind X.prog X.w).draws k }) (k := k) (x := b) R m0 mb (show X.A.units + 1 + 8 < cLine by omega) (by omega) fun bb h' L' es' ep' t' sb R' c1 c2 => ?_
    show wpAny _ _ (ret Value.none) _ _ _
    have he : ∃ u, h'.get? D = some u := by
      have ⟨o, ho, _⟩ := R'.obj
      exact ⟨o, ho⟩
    refine wpAny_pure ⟨_, rfl, _, I.write (e := D) (t' := s.toks + (nestedKind X.prog X.w).draws k) (by rw [ha]; trivial) (.inl rfl) (fun b u hb hu => (sb.2 b hb).trans hu) he (nso_ok R'), q _ ⟨addk_nodup k once, L', upd_same, fun p hp => ?_, keys_add pm c1 c2⟩⟩
    have two : p ∈ L ∨ p = (b, k) := by
      by_cases c : k ∈ L.map (·.2)
      · rw [c1 c] at hp
        exact .inl hp
      · rcases List.mem_cons.mp ((c2 c).mem_iff.mp hp) with z | z
        · exact .inr z
        · exact .inl z
    rcases two with z | rfl
    · exact ⟨(hL p z).1.upd ha, (hL p z).2⟩
    · exact ⟨hb.upd ha, hn⟩
/-- {elt for target in iter if ..}: D the new set -/
def tScX (K : PySem.W.Frag) (P : Program) (w : World) (wi : TI) (g : TG) (tt : TT) (te : TE) (vs : List Nat) : TE := fun σ H Q => wi σ H fun J H1 => ∀ D, H1 D = none → ∃ O0, (O0 = SetO w D (fun _ => false) 0 ∨ O0 = NSO P w D []) ∧ ∃ W : Nat → Nat → Hp → Prop, (∃ m, W 0 m (upd H1 D O0)) ∧ ∀ i m H, W i m H →
  (J.stop i H ∧ Q (.ref D) H) ∨ (J.go i H ∧ ∃ Nx : Hp → Prop, (∀ H', Nx H' → ∃ m', m' < m ∧ W (i + 1) m' H') ∧ ∀ x H', J.yld i H x H' → g x (wipe σ vs) H' fun σ2 H2 => wipe σ2 vs = wipe σ vs ∧ tt σ2 H2 fun b H3 =>
    if b = true then te σ2 H3 fun y H4 => rAddX K P w D y H4 Nx else Nx H3)
theorem O0_ok {P : Program} {w : World} {H : Hp} {h : Heap} {D : Addr} {O0 : HO} (hO : O0 = SetO w D (fun _ => false) 0 ∨ O0 = NSO P w D []) (hd : h.get? D = some (bare w)) : ObjOk P w H h D O0 := by
  rcases hO with rfl | rfl
  · refine setO_new ?_
    have z := setR_new_at (ns := []) hd
    simpa using z
  · exact nso_ok (laid_fresh hd)
theorem sc_core {X : Cx} {K : PySem.W.Frag} {P : Program} {w : World} {pins : List (Addr × Obj)} {s : Shared} {σ : L2.St} {H : Hp} {Q : VK} {elt tg iter : Expr} {ifs : List Expr} {scope : Scope} {own : List (PySem.Str × Nat)} {pos pos' : Pos} {wi : TI} {g : TG} {tt : TT} {te : TE} {use : Option (Value → Sem Unit)} {Qf : Value → Shared → Prop}
    (eK : X.K = K) (eP : X.prog = P) (ew : X.w = w) (hu : X.A.units + 64 < cLine)
    (hc : X.calm = true) (hN : X.N.Nodup) (I : Inv X pins σ H s) (hi : PI X tg iter wi) (ok : BlkOk X.N X.env.scope scope own)
    (hg : ∀ (s : Shared) (H : Hp) (C : Addr) (cl : List (PySem.Str × Addr)) (fp : List Addr), PG (X.blk s H scope (compEnvC scope cl C X.env) fp) tg g) (ht : ∀ (s : Shared) (H : Hp) (C : Addr) (cl : List (PySem.Str × Addr)) (fp : List Addr), PTs (X.blk s H scope (compEnvC scope cl C X.env) fp) ifs tt)
    (he : ∀ (s : Shared) (H : Hp) (C : Addr) (cl : List (PySem.Str × Addr)) (fp : List Addr), PE (X.blk s H scope (compEnvC scope cl C X.env) fp) elt te) (hs : ∀ x, foldedSetIterable iter X.env x = pure x)
    (h : tScX K P w wi g tt te (own.map (·.2)) σ H Q)
    (hRR : ∀ D C s' m H', Inv X pins σ H' s' → Q (.ref D) H' → s'.heap.Ns C m → FpOk X pins H' C → compPost (model X.prog X.w) X.A X.xe use Qf (.ref D) C (.ok .next) s') :
    wpAny (model X.prog X.w) X.A (comprehension (.SetComp elt [⟨tg, iter, ifs, 0⟩] scope pos) scope X.env pos' (newSet (.type "set")) false (eval iter X.env) use) Qf X.xe s := by
  subst eK eP ew
  have frees : ∀ y ∈ scope.names, y.2 = .free → ∃ c, X.env.cells.lookup y.1 = some c := fun y hy e => I.ok.has _ (ok.free y hy e)
  refine wpAny_comprehension_free (use := use) rfl hs (closure_ok frees) ok.kind (fun y hy e => by rw [ok.uniq y hy, e]) (thn (hi.run pins s σ H _ I h) fun xv s1 hx => thn hx fun itv s2 got => ?_)
  obtain ⟨it, fp, tn, J, H2, e, I2, T, st2, f2, q⟩ := got
  subst e
  refine PpSet.newSet_ok (newEnv_comp ?_)
  obtain ⟨D, hD⟩ : ∃ D, s2.heap.objs.size = D := ⟨_, rfl⟩
  rw [hD]
  obtain ⟨O0, hO, W, ⟨m0, w0⟩, turn⟩ := q D (I2.hok.fresh (Nat.le_of_eq hD))
  obtain ⟨s3, hs3⟩ : ∃ s3 : Shared, { s2 with heap := s2.heap.push (bare X.w) } = s3 := ⟨_, rfl⟩
  have h3 : s3.heap = s2.heap.push (bare X.w) := by rw [← hs3]
  have I3 : Inv X pins σ (upd H2 D O0) s3 := by
    rw [← hs3]
    refine I2.laid (t' := s2.toks) (fun b o e => Heap.get?_push_of_some _ e) (Nat.le_of_eq hD) (O0_ok hO ?_)
    rw [← hD]
    exact Heap.get?_push_size _ rfl
  have st3 : tn 0 s3.heap := T.keep _ _ _ st2 fun b _ o e => by rw [h3]; exact Heap.get?_push_of_some _ e
  have f3 : ∀ b ∈ fp, FpOk X pins (upd H2 D O0) b ∧ b < s3.heap.objs.size := fun b hb => by
    obtain ⟨o, e, _⟩ := T.obj _ _ st2 b hb
    have lt := Heap.lt_size e
    refine ⟨⟨?_, (f2 b hb).2⟩, by rw [h3, Heap.size_push]; exact Nat.lt_succ_of_lt lt⟩
    rw [upd_ne (by rw [← hD]; exact Nat.ne_of_lt lt)]
    exact (f2 b hb).1
  change codeAny (model X.prog X.w) X.A (.compStart (.SetComp elt [⟨tg, iter, ifs, 0⟩] scope pos) 0 (.ref it) (.ref D) (compEnvC scope (cellsFrom ((s2.heap.push (bare X.w)).objs.size + 1) scope.names (cloFrom X.env.cells scope.names [])) (s2.heap.push (bare X.w)).objs.size X.env)) (compPost (model X.prog X.w) X.A X.xe use Qf (.ref D) (s2.heap.push (bare X.w)).objs.size) { s2 with heap := pushCells ((s2.heap.push (bare X.w)).push { cls := .type "dict", data := .dict #[] }) scope.names }
  have es : ({ s2 with heap := pushCells ((s2.heap.push (bare X.w)).push { cls := .type "dict", data := .dict #[] }) scope.names } : Shared) = { s3 with heap := pushCells (s3.heap.push { cls := .type "dict", data := .dict #[] }) scope.names } := by rw [← hs3]
  rw [es, ← h3]
  have I4 := block_start I3 ok hN f3
  obtain ⟨ce, hce⟩ : ∃ ce, compEnvC scope (cellsFrom (s3.heap.objs.size + 1) scope.names (cloFrom X.env.cells scope.names [])) s3.heap.objs.size X.env = ce := ⟨_, rfl⟩
  have pg := hg s3 (upd H2 D O0) s3.heap.objs.size (cellsFrom (s3.heap.objs.size + 1) scope.names (cloFrom X.env.cells scope.names [])) fp
  have pt := ht s3 (upd H2 D O0) s3.heap.objs.size (cellsFrom (s3.heap.objs.size + 1) scope.names (cloFrom X.env.cells scope.names [])) fp
  have pe := he s3 (upd H2 D O0) s3.heap.objs.size (cellsFrom (s3.heap.objs.size + 1) scope.names (cloFrom X.env.cells scope.names [])) fp
  have cL : ce.locals = s3.heap.objs.size := by rw [← hce]; rfl
  rw [hce] at I4 pg pt pe ⊢
  have nfp : ∀ b ∈ fp, (upd H2 D O0) b = none := fun b hb => (f3 b hb).1.1
  generalize upd H2 D O0 = H3 at I3 I4 pg pt pe w0 nfp f3
  obtain ⟨s4, hs4⟩ : ∃ s4 : Shared, { s3 with heap := pushCells (s3.heap.push { cls := .type "dict", data := .dict #[] }) scope.names } = s4 := ⟨_, rfl⟩
  rw [hs4] at I4 ⊢
  have st4 : tn 0 s4.heap := T.keep _ _ _ st3 fun b _ o e => by rw [← hs4]; exact pushCells_keeps _ _ _ _ (Heap.get?_push_of_some _ e)
  have stat : ∀ {σ' : L2.St} {H' : Hp} {s' : Shared}, Inv (X.blk s3 H3 scope ce fp) [] σ' H' s' → (∀ b ∈ fp, H' b = none) → ∀ b ∈ fp, FpOk (X.blk s3 H3 scope ce fp) [] H' b := fun {σ' H' s'} I' hn b hb =>
    ⟨hn b hb, (I'.ok.exf b hb).1, I'.ok.exfs b hb, .inl hb, fun x c e => (I'.ok.exf b hb).2 x c e, fun p hp => absurd (show p ∈ ([] : List (Addr × Obj)) ++ [] from hp) (by simp)⟩
  refine codeAny_mono (PpSet.codeAny_compStart_set (R := compPost (model X.prog X.w) X.A X.xe use Qf (.ref D) s3.heap.objs.size) ?loop ?self) fun _ _ z => z
  case self => exact T.self X.A 0 _ _ _ st4 ?loop
  refine PpSet.compLoopS_any (fun n s' => ∃ i H', Inv (X.blk s3 H3 scope ce fp) [] (wipe σ (own.map (·.2))) H' s' ∧ tn i s'.heap ∧ (∀ b ∈ fp, H' b = none) ∧ W i n H') ?_ m0 ⟨0, H3, I4, st4, nfp, w0⟩
  rintro n s5 ⟨i, H5, I5, st5, n5, w5⟩
  rcases turn i n H5 w5 with ⟨stop, qq⟩ | ⟨go, Nx, hNx, step⟩
  · refine thnF (T.done (X.blk s3 H3 scope ce fp) rfl rfl rfl hc i [] s5 _ H5 (fun _ _ => False) I5 (stat I5 n5) st5 stop) fun r s6 got => ?_
    obtain ⟨hr, I6⟩ := got
    subst hr
    have I7 : Inv X pins σ H5 s6 := I3.call' (ch := fp) I6.os I6.base I6.hok I6.bare fun b hb => ⟨(f3 b hb).1.2.2.2.1, (f3 b hb).1.2.1, (f3 b hb).1.2.2.2.2.1, (f3 b hb).1.2.2.2.2.2⟩
    have nC : H5 s3.heap.objs.size = none := by
      rw [← cL]
      exact I6.free
    obtain ⟨m, hn, _⟩ := I6.loc
    have hn : s6.heap.Ns ce.locals m := hn
    rw [cL] at hn
    exact hRR D s3.heap.objs.size s6 m H5 I7 qq hn (I3.fpOk (Nat.le_refl _) nC)
  · refine thnF (T.item (X.blk s3 H3 scope ce fp) rfl rfl rfl hc i [] s5 _ H5 (fun _ _ => False) I5 (stat I5 n5) st5 go) fun r s6 got => ?_
    obtain ⟨u, hr, h6⟩ := got
    subst hr
    refine thnF h6 fun _ s7 got => ?_
    obtain ⟨x, H7, I7, r7, y7, st7, n7⟩ := got
    have I7' := I7.pinned (stat I7 n7) (T.obj _ _ st7)
    refine thnF (pg.run _ s7 _ H7 x u _ I7' r7 (step x H7 y7)) fun _ s8 got => ?_
    obtain ⟨σ8, H8, I8, hw8, q8⟩ := got
    refine thnF (pt.run _ s8 σ8 H8 _ I8 q8) fun b s9 got => ?_
    obtain ⟨H9, I9, q9⟩ := got
    have ends : ∀ {s' : Shared} {H' : Hp}, Inv (X.blk s3 H3 scope ce fp) ([] ++ pinsAt fp s7.heap) σ8 H' s' → Nx H' → ∃ m, m < n ∧ ∃ i H', Inv (X.blk s3 H3 scope ce fp) [] (wipe σ (own.map (·.2))) H' s' ∧ tn i s'.heap ∧ (∀ b ∈ fp, H' b = none) ∧ W i m H' := fun {s' H'} I' nx => by
      obtain ⟨m', hm, w'⟩ := hNx H' nx
      have pin : ∀ b ∈ fp, ∀ o, s7.heap.get? b = some o → s'.heap.get? b = some o ∧ H' b = none := fun b hb o e => ⟨(I'.pin (b, o) (List.mem_append_right _ (List.mem_append_right _ (mem_pinsAt hb e)))).1, (I'.pin (b, o) (List.mem_append_right _ (List.mem_append_right _ (mem_pinsAt hb e)))).2.1⟩
      refine ⟨m', hm, i + 1, H', (I'.unpinned (pins := [])).weak (by rw [← hw8, wipe_length]) (fun j v e => ?_), T.keep _ _ _ st7 fun b hb o e => (pin b hb o e).1, fun b hb => ?_, w'⟩
      · rw [← hw8] at e
        exact (wipe_some e).1
      · obtain ⟨o, e, _⟩ := T.obj _ _ st7 b hb
        exact (pin b hb o e).2
    cases b with
    | false =>
      simp only [Bool.false_eq_true, if_false] at q9 ⊢
      exact ends I9 q9
    | true =>
      simp only [if_true] at q9 ⊢
      refine thnF (pe.run _ s9 σ8 H9 _ I9 q9) fun z s10 got => ?_
      obtain ⟨yv, H10, I10, r10, add⟩ := got
      exact thnF (add_ok (X := X.blk s3 H3 scope ce fp) hu I10 r10 add) fun _ s11 got => let ⟨H11, I11, nx⟩ := got; ends I11 nx
/-- as a value -/
theorem pe_scX {X : Cx} (K : PySem.W.Frag) {P : Program} {w : World} {elt tg iter : Expr} {ifs : List Expr} {scope : Scope} {own : List (PySem.Str × Nat)} {pos : Pos} {wi : TI} {g : TG} {tt : TT} {te : TE} (hu : X.A.units + 64 < cLine) (hc : X.calm = true) (hN : X.N.Nodup) (hi : PI X tg iter wi) (ok : BlkOk X.N X.env.scope scope own)
    (hg : ∀ (s : Shared) (H : Hp) (C : Addr) (cl : List (PySem.Str × Addr)) (fp : List Addr), PG (X.blk s H scope (compEnvC scope cl C X.env) fp) tg g) (ht : ∀ (s : Shared) (H : Hp) (C : Addr) (cl : List (PySem.Str × Addr)) (fp : List Addr), PTs (X.blk s H scope (compEnvC scope cl C X.env) fp) ifs tt)
    (he : ∀ (s : Shared) (H : Hp) (C : Addr) (cl : List (PySem.Str × Addr)) (fp : List Addr), PE (X.blk s H scope (compEnvC scope cl C X.env) fp) elt te) (hs : ∀ x, foldedSetIterable iter X.env x = pure x := by intro _; rfl) (e1 : X.prog = P := by rfl) (e2 : X.w = w := by rfl) (e3 : X.K = K := by rfl) :
    PE X (.SetComp elt [⟨tg, iter, ifs, 0⟩] scope pos) (tScX K P w wi g tt te (own.map (·.2))) := by
  refine ⟨fun pins s σ H Q I h => ?_⟩
  rw [PpSet.eval_SetComp]
  refine sc_core e3 e1 e2 hu hc hN I hi ok hg ht he hs h fun D C s' m H' I' q hn f => ⟨m, hn, fun h'' sb => ?_⟩
  obtain ⟨f0, f1, f2, f3, f4, f5⟩ := f
  exact ⟨.ref D, H', I'.turned (t' := s'.toks) (fun b o hb e => (sb.2 b hb).trans e) f0 f1 f3 f4 f5, rfl, q⟩
end WS
namespace WS
open PySem PySem.Spec PyProof.Rows L2 PySem.W
def rSortSI (w : World) : List V → Hp → VK → Prop := fun vs H Q => ∃ (a : Addr) (ks : List Int), vs = [V.ref a] ∧ SetI w H a ks ∧ ks.length < 64 ∧ ∀ (ns : List Int) (p : Addr), ns.Perm ks → ns.Pairwise (· ≤ ·) → H p = none → Q (.ref p) (upd H p (.lst (ns.map V.int)))
theorem k_sortSI {X : Cx} {w : World} (hc : X.calm = true) (e2 : X.w = w := by rfl) : CallR X (.builtin "sorted") (rSortSI w) := by
  subst e2
  intro pins s σ H vs us Q I r h
  obtain ⟨a, ks, rfl, ⟨once, S, ha, hS⟩, h64, q⟩ := h
  refine cr_sortedSet hc pins s σ H _ us Q I r ⟨a, S, ks.length, rfl, ha, h64, fun ns p pw mem len hp => q ns p ?_ (pw.imp fun h => Int.le_of_lt h) hp⟩
  exact (List.perm_ext_iff_of_nodup (pw.imp fun h => Int.ne_of_lt h) once).mpr fun x => by rw [mem, hS]
theorem perm_map_ex {α β : Type} {f : α → β} : ∀ {l : List α} {m : List β}, m.Perm (l.map f) → ∃ l' : List α, l'.Perm l ∧ m = l'.map f := by
  intro l m h
  have key : ∀ {m n : List β}, m.Perm n → ∀ l : List α, n = l.map f → ∃ l' : List α, l'.Perm l ∧ m = l'.map f := by
    intro m n h
    induction h with
    | nil =>
      intro l e
      exact ⟨l, .refl _, e⟩
    | cons x _ ih =>
      intro l e
      cases l with
      | nil => cases e
      | cons y l =>
        rw [List.map_cons] at e
        injection e with e1 e2
        obtain ⟨l', p, e3⟩ := ih l e2
        exact ⟨y :: l', p.cons y, by rw [List.map_cons, e3, e1]⟩
    | swap x y n =>
      intro l e
      cases l with
      | nil => cases e
      | cons a l =>
        cases l with
        | nil => cases e
        | cons b l =>
          simp only [List.map_cons, List.cons.injEq] at e
          obtain ⟨e1, e2, e3⟩ := e
          exact ⟨b :: a :: l, List.Perm.swap _ _ _, by simp [e1, e2, e3]⟩
    | trans _ _ ih1 ih2 =>
      intro l e
      obtain ⟨l2, p2, e2⟩ := ih2 l e
      obtain ⟨l1, p1, e1⟩ := ih1 l2 e2
      exact ⟨l1, p1.trans p2, e1⟩
  exact key h l rfl
/-- a set of tuples, sorted -/
def rSortSN (K : PySem.W.Frag) (P : Program) (w : World) : List V → Hp → VK → Prop := fun vs H Q => ∃ (a : Addr) (L : List NM) (dat : NM → PyData), vs = [V.ref a] ∧ H a = some (NSO P w a L) ∧ (∀ p ∈ L, isKey (dat p) = true) ∧ Srt K H (L.map fun p => (V.ref p.1, dat p)) ∧
  ∀ (L' : List NM) (p : Addr), L'.Perm L → H p = none → Q (.ref p) (upd H p (.lst ((srtD (L'.map fun p => (V.ref p.1, dat p))).map (·.1))))
theorem k_sortSN {X : Cx} (K : PySem.W.Frag) {P : Program} {w : World} (hc : X.calm = true) (hu : X.A.units + 64 < cLine) (e1 : X.prog = P := by rfl) (e2 : X.w = w := by rfl) (e : X.K = K := by rfl) : CallR X (.builtin "sorted") (rSortSN K P w) := by
  subst e e1 e2
  intro pins s σ H vs us Q I r h
  obtain ⟨a, L, dat, rfl, ha, hk, ⟨h1, h2, h3, h4⟩, q⟩ := h
  rw [Vals.ref1 r]
  obtain ⟨es, ep, t, R⟩ := (I.hok a _ ha).1
  have z := R.obj
  obtain ⟨o, ho, hex, hd⟩ := z
  have few := R.small
  refine Calls.call_function_entry PyProof.Rows.kind_sorted PyProof.Rows.plain_sorted PyProof.Rows.entry_sorted (PyProof.Rows.args_sorted1 _) ?_
  unfold Builtin.«sorted»
  refine wpAny_bind (m := checkCount "sorted" 1 1 _) (wpAny_pure ?_)
  refine wpAny_bind (collect_set (A := X.A.in1) (I.ok.hd hc) ⟨o, ho, hex.1, hd⟩ (Laid.fit (s := s) R) (by rw [ents_len R.ents]; unfold scanBound; omega) R.tab.ris R.ledO fun s1 out k1 hz g1 o1 pm => ?_)
  have pm2 : out.Perm (L.map fun p => Value.ref p.1) := by
    have z := pm
    rw [R.ents, List.map_map] at z
    exact z
  obtain ⟨L', pL, eo⟩ := perm_map_ex pm2
  have ll : L'.length = L.length := pL.length_eq
  have mem : ∀ b ∈ (L'.map fun p => (V.ref p.1, dat p)), b ∈ (L.map fun p => (V.ref p.1, dat p)) := fun b hb => (pL.map fun p => (V.ref p.1, dat p)).mem_iff.mp hb
  have rv : Vals ((L'.map fun p => (V.ref p.1, dat p)).map (·.1)) out := by
    rw [eo]
    clear eo pL ll mem
    induction L' with
    | nil => exact .nil
    | cons p L' ih => exact .cons rfl ih
  have sub : ∀ ds : List PyData, True := fun _ => trivial
  have al : AllAlike ((L'.map fun p => (V.ref p.1, dat p)).map (·.2)) := fun d hd e he => by
    obtain ⟨x, hx, rfl⟩ := List.mem_map.mp hd
    obtain ⟨y, hy, rfl⟩ := List.mem_map.mp he
    exact h2 _ (List.mem_map.mpr ⟨x, mem x hx, rfl⟩) _ (List.mem_map.mpr ⟨y, mem y hy, rfl⟩)
  have so : Sortable ((L'.map fun p => (V.ref p.1, dat p)).map (·.2)) := by
    rcases h3 with h3 | h3
    · refine .inl fun d hd => ?_
      obtain ⟨x, hx, rfl⟩ := List.mem_map.mp hd
      exact h3 _ (List.mem_map.mpr ⟨x, mem x hx, rfl⟩)
    · refine .inr fun d hd => ?_
      obtain ⟨x, hx, rfl⟩ := List.mem_map.mp hd
      exact h3 _ (List.mem_map.mpr ⟨x, mem x hx, rfl⟩)
  have lo : out.length = L.length := by rw [eo, List.length_map, ll]
  refine wpAny_bind (wpAny_newList ?_ (by rw [lo, sizeLine_eq]; omega))
  have hoL : (s1.heap.push (seqObj "list" out.toArray 0)).get? s1.heap.objs.size = some (seqObj "list" out.toArray 0) := Heap.get?_push_size _ rfl
  have er := each_reads I rv fun b hb => h1 b (mem b hb)
  have er2 : EachIs (fun (v : Value) (b : V × PyData) => ∃ as, Reads (s1.heap.push (seqObj "list" out.toArray 0)) v b.2 as ∧ s1.heap.objs.size ∉ as) out (L'.map fun p => (V.ref p.1, dat p)) := by
    refine EachIs.mono (R := fun v b => (∃ as, Reads s.heap v b.2 as) ∧ b ∈ (L'.map fun p => (V.ref p.1, dat p))) (fun v b hvb => ?_) (each_mem er)
    obtain ⟨⟨as, ra⟩, hb⟩ := hvb
    obtain ⟨p, hp, rfl⟩ := List.mem_map.mp hb
    have ee := key_reads _ _ _ (hk p (pL.mem_iff.mp hp)) ra
    subst ee
    exact ⟨[], PyProof.Rows.Reads.keeps (fun _ _ q => Heap.get?_push_of_some _ (k1 _ _ q)) ra, List.not_mem_nil⟩
  refine wpAny_bind (wpAny_holding (list_sort_data (s := { s1 with heap := s1.heap.push (seqObj "list" out.toArray 0) }) (R := fun (v : Value) (b : V × PyData) => RelV b.1 v) (enc := fun b => b.2) hoL (each_vals rv) er2 al so (by rw [List.length_map, ll, sizeLine_eq]; omega) (fun b hb => ?_) fun out2 hlen ho2 => ?_))
  · have := h4 b (mem b hb)
    show X.A.units + 1 + 1 + b.2.depth < cLine
    omega
  obtain ⟨e', he'⟩ := PyProof.Rows.sortedHeap_at (vs := out) (out := out2.toArray) hoL
  have hlen2 : ((srtD (L'.map fun p => (V.ref p.1, dat p))).map (·.1)).length ≤ sizeLine := by
    unfold srtD
    rw [List.length_map, (List.mergeSort_perm _ _).length_eq, List.length_map, ll, sizeLine_eq]
    omega
  have hp : s.heap.objs.size ≤ s1.heap.objs.size := hz
  have hn : H s1.heap.objs.size = none := I.hok.fresh hp
  have kk : ∀ b u, s.heap.get? b = some u → (sortedHeap (s1.heap.push (seqObj "list" out.toArray 0)) s1.heap.objs.size out out2.toArray).get? b = some u := fun b u e => by
    have q := k1 b u e
    have lt := Heap.lt_size q
    rw [sortedHeap_old (Nat.ne_of_lt lt) (by rw [size_push']; exact Nat.lt_succ_of_lt lt)]
    exact Heap.get?_push_of_some _ q
  have J : Inv X pins σ (upd H s1.heap.objs.size (.lst ((srtD (L'.map fun p => (V.ref p.1, dat p))).map (·.1)))) { s with heap := sortedHeap (s1.heap.push (seqObj "list" out.toArray 0)) s1.heap.objs.size out out2.toArray, gens := s1.gens, drawn := s1.drawn, toks := s1.toks } :=
    I.call (ch := []) (Un.laid kk hp hn) (I.hok.laid kk hp ⟨hlen2, out2, e', vals_each ho2, he'⟩) (by rw [g1]; exact I.bare) (fun _ z => nomatch z)
  have es1 : s1 = { s with heap := s1.heap, gens := s1.gens, drawn := s1.drawn, toks := s1.toks } := by
    cases s1
    cases s
    cases o1
    rfl
  refine wpAny_pure ⟨_, rfl, .ref s1.heap.objs.size, _, ?_, rfl, q L' _ pL hn⟩
  have e9 : ({ s1 with heap := sortedHeap (s1.heap.push (seqObj "list" out.toArray 0)) s1.heap.objs.size out out2.toArray } : Shared) = { s with heap := sortedHeap (s1.heap.push (seqObj "list" out.toArray 0)) s1.heap.objs.size out out2.toArray, gens := s1.gens, drawn := s1.drawn, toks := s1.toks } := by
    cases s1
    cases s
    cases o1
    rfl
  rw [e9]
  exact J
/-- set(list of tuples): which they are -/
def rSetL (K : PySem.W.Frag) (P : Program) (w : World) : List V → Hp → VK → Prop := fun xs H Q => ∃ l, xs = [V.ref l] ∧
  ∃ ks : List NM, SqL K H l (ks.map fun p => V.ref p.1) ∧ ks.length < 60 ∧ (∀ p ∈ ks, IsKey K H p.1 p.2 ∧ isNum p.2 = true) ∧ ∀ p (L : List NM), H p = none → (∀ x ∈ L, x ∈ ks) → (L.map (·.2)).Perm (dist (ks.map (·.2))) → Q (.ref p) (upd H p (NSO P w p L))
theorem k_setL {X : Cx} (K : PySem.W.Frag) {P : Program} {w : World} (hc : X.calm = true) (hu : X.A.units + 64 < cLine) (e1 : X.prog = P := by rfl) (e2 : X.w = w := by rfl) (e : X.K = K := by rfl) : CallR X (.type "set") (rSetL K P w) := by
  subst e e1 e2
  intro pins s σ H xs us Q I r h
  obtain ⟨l, rfl, h⟩ := h
  rw [Vals.ref1 r]
  have hn : H s.heap.objs.size = none := I.hok.fresh (Nat.le_refl _)
  have n0 : s.heap.get? s.heap.objs.size = none := by
    cases q : s.heap.get? s.heap.objs.size with
    | none => rfl
    | some o => exact absurd (Heap.lt_size q) (Nat.lt_irrefl _)
  obtain ⟨ks, hl, h6, hk, q⟩ := h
  obtain ⟨its, rv, pl, hz⟩ := I.list hl
  have ei : its = ks.map fun p => Value.ref p.1 := by
    have z : ∀ {ks : List NM} {us : List Value}, Vals (ks.map fun p => V.ref p.1) us → us = ks.map fun p => Value.ref p.1 := by
      intro ks
      induction ks with
      | nil => intro us h; cases h; rfl
      | cons k ks ih =>
        intro us h
        cases h with
        | cons h1 h2 =>
          rw [ih h2]
          cases (show _ = Value.ref k.1 from h1)
          rfl
    exact z rv
  subst ei
  refine call_fill (P := X.prog) (w := X.w) (I.ok.hd hc) pl.isList (fun A' ha => fill_n (P := X.prog) (w := X.w) (A := A') ks (fun p hp => ⟨(hk p hp).1.is I, (hk p hp).2⟩) n0 h6 (by omega)) fun h' tk g k => ?_
  obtain ⟨L, es, ep, t, R, sub, pm⟩ := g
  have sz : (ks.map fun p => Value.ref p.1).toArray.size = ks.length := by rw [List.size_toArray, List.length_map]
  rw [sz, List.take_length] at pm
  exact ⟨.ref s.heap.objs.size, upd H s.heap.objs.size (NSO X.prog X.w s.heap.objs.size L), I.laid (t' := tk) k (Nat.le_refl _) (nso_ok R), rfl, q _ _ hn sub pm⟩
end WS
namespace WS
open PySem PySem.Spec PyProof.Rows L2
theorem k_pizA {X : Cx} (K : PySem.W.Frag) {e e2 : Expr} {ta : TA} {p pos tpos : Pos} {elts : List Expr} {kk : Nat} (hg : Gl X "zip") (hm : X.mg "zip" = none) (ha : PA X [e, e2] ta) (eK : X.K = K := by rfl)
    (hst : starEach [e, e2] X.env = (false, eval e X.env) :: starEach [e2] X.env := by rfl) (hpl : (backTo pos (starEach [e2] X.env)).any (·.1) = false := by rfl) : PI X (.Tuple elts kk tpos) (.Call (.Name "zip" p) [e, e2] [] pos) (RZ.iZipA K ta) := by
  subst eK
  exact RZ.pi_zipA hg hm ha (hs := hst) (hpl := hpl)
theorem lc_zipT {K : PySem.W.Frag} {a b : Addr} {xs ys : List V} {g : TG} {tt : TT} {te : TE} {vs : List Nat} {σ : L2.St} {H1 : Hp} {D : Addr} {Qd : Hp → Prop} (Pv : Nat → Hp → Prop) (h0 : Pv 0 (upd H1 D (.lst []))) (hl : ∀ i H, i ≤ min xs.length ys.length → Pv i H → SqT K H a xs ∧ SqT K H b ys)
    (hs : ∀ i x y T H, xs[i]? = some x → ys[i]? = some y → Pv i H → H T = none → g (.ref T) (wipe σ vs) (upd H T (.tup [x, y])) fun σ2 H2 => wipe σ2 vs = wipe σ vs ∧ tt σ2 H2 fun b H3 =>
      if b = true then te σ2 H3 fun y H4 => ∃ acc, H4 D = some (.lst acc) ∧ acc.length < sizeLine ∧ Pv (i + 1) (upd H4 D (.lst (acc ++ [y]))) else Pv (i + 1) H3) (hd : ∀ H, Pv (min xs.length ys.length) H → Qd H) :
    ∃ W : Nat → Nat → Hp → Prop, (∃ m, W 0 m (upd H1 D (.lst []))) ∧ ∀ i m H, W i m H →
      ((RZ.ItzT K a b).stop i H ∧ Qd H) ∨ ((RZ.ItzT K a b).go i H ∧ ∃ Nx : Hp → Prop, (∀ H', Nx H' → ∃ m', m' < m ∧ W (i + 1) m' H') ∧ ∀ x H', (RZ.ItzT K a b).yld i H x H' → g x (wipe σ vs) H' fun σ2 H2 => wipe σ2 vs = wipe σ vs ∧ tt σ2 H2 fun b H3 =>
        if b = true then te σ2 H3 fun y H4 => ∃ acc, H4 D = some (.lst acc) ∧ acc.length < sizeLine ∧ Nx (upd H4 D (.lst (acc ++ [y]))) else Nx H3) := by
  refine ⟨fun i m H => m = min xs.length ys.length - i ∧ i ≤ min xs.length ys.length ∧ Pv i H, ⟨_, rfl, Nat.zero_le _, h0⟩, ?_⟩
  rintro i m H ⟨rfl, hi, p⟩
  obtain ⟨q1, q2⟩ := hl i H hi p
  by_cases lt : i < min xs.length ys.length
  · have l1 : i < xs.length := by omega
    have l2 : i < ys.length := by omega
    refine .inr ⟨⟨xs, ys, xs[i], ys[i], q1, q2, List.getElem?_eq_getElem l1, List.getElem?_eq_getElem l2⟩, Pv (i + 1), fun H' p' => ⟨min xs.length ys.length - (i + 1), by omega, rfl, lt, p'⟩, fun x H' got => ?_⟩
    obtain ⟨T, x1, y1, rfl, hT, rfl, e1, e2⟩ := got
    exact hs i x1 y1 T H (e1 xs q1) (e2 ys q2) p hT
  · obtain rfl : i = min xs.length ys.length := by omega
    exact .inl ⟨⟨xs, ys, q1, q2, by omega⟩, hd H p⟩
theorem sc_lst {K : PySem.W.Frag} {P : Program} {w : World} {a : Addr} {xs : List V} {g : TG} {tt : TT} {te : TE} {vs : List Nat} {σ : L2.St} {H1 : Hp} {D : Addr} {Qd : Hp → Prop} {O0 : HO} (hO : O0 = SetO w D (fun _ => false) 0 ∨ O0 = NSO P w D []) (Pv : Nat → Hp → Prop) (h0 : Pv 0 (upd H1 D O0)) (hl : ∀ i H, i ≤ xs.length → Pv i H → SqL K H a xs)
    (hs : ∀ i x H, xs[i]? = some x → Pv i H → g x (wipe σ vs) H fun σ2 H2 => wipe σ2 vs = wipe σ vs ∧ tt σ2 H2 fun b H3 =>
      if b = true then te σ2 H3 fun y H4 => rAddX K P w D y H4 (Pv (i + 1)) else Pv (i + 1) H3) (hd : ∀ H, Pv xs.length H → Qd H) :
    ∃ O0, (O0 = SetO w D (fun _ => false) 0 ∨ O0 = NSO P w D []) ∧ ∃ W : Nat → Nat → Hp → Prop, (∃ m, W 0 m (upd H1 D O0)) ∧ ∀ i m H, W i m H →
      ((Itl K a).stop i H ∧ Qd H) ∨ ((Itl K a).go i H ∧ ∃ Nx : Hp → Prop, (∀ H', Nx H' → ∃ m', m' < m ∧ W (i + 1) m' H') ∧ ∀ x H', (Itl K a).yld i H x H' → g x (wipe σ vs) H' fun σ2 H2 => wipe σ2 vs = wipe σ vs ∧ tt σ2 H2 fun b H3 =>
        if b = true then te σ2 H3 fun y H4 => rAddX K P w D y H4 Nx else Nx H3) := by
  refine ⟨O0, hO, fun i m H => m = xs.length - i ∧ i ≤ xs.length ∧ Pv i H, ⟨xs.length, by simp, Nat.zero_le _, h0⟩, ?_⟩
  rintro i m H ⟨rfl, hi, p⟩
  have q := hl i H hi p
  by_cases lt : i < xs.length
  · refine .inr ⟨⟨xs, xs[i], q, List.getElem?_eq_getElem lt⟩, Pv (i + 1), fun H' p' => ⟨xs.length - (i + 1), by omega, rfl, lt, p'⟩, fun x H' got => ?_⟩
    obtain ⟨rfl, e⟩ := got
    exact hs i x H' (e xs q) p
  · obtain rfl : i = xs.length := by omega
    exact .inl ⟨⟨xs, q, Nat.le_refl _⟩, hd H p⟩
theorem setI_new {w : World} {H : Hp} {D : Addr} : SetI w (upd H D (SetO w D (fun _ => false) 0)) D [] := ⟨List.nodup_nil, _, upd_same, fun j => by simp⟩
theorem setN_new {K : PySem.W.Frag} {P : Program} {w : World} {H : Hp} {D : Addr} : SetN K P w (upd H D (NSO P w D [])) D [] := ⟨List.nodup_nil, [], upd_same, fun _ z => (nomatch z), .refl _⟩
theorem small_of {n : Nat} (h : n ≤ 1000000) : n < sizeLine := by rw [sizeLine_eq]; omega
theorem k_inD {X : Cx} (K : PySem.W.Frag) (hu : X.A.units + 65 < cLine) (e : X.K = K := by rfl) : OpR X (compareOp .In) (rInD K) := by subst e; exact op_inD hu
theorem room65 {k : Nat} {A : Around} (r : Room k A) : A.units + 65 < cLine := by have := r.un; omega
theorem k_sortI {X : Cx} (K : PySem.W.Frag) (e : X.K = K := by rfl) : CallR X (.builtin "sorted") (rSortedI K) := by subst e; exact cr_sortedI
def rSortDI : List V → Hp → VK → Prop := fun xs H Q => ∃ (a : Addr) (kvs : List (Key × V)) (ks : List Int), xs = [.ref a] ∧ Rd H a (.dK kvs) ∧ kvs.map (·.1) = ks.map Sum.inl ∧ ks.length < 64 ∧ ∀ (ys : List Int) (p : Addr), ys.Perm ks → ys.Pairwise (· ≤ ·) → H p = none → Q (.ref p) (upd H p (.lst (ys.map V.int)))
theorem k_sortDI {X : Cx} (hc : X.calm = true) : CallR X (.builtin "sorted") rSortDI := call_sortedDI hc
end WS
namespace WS
open PySem L2
structure Stands (n : Nat) (S : List Nat) : Prop where
  ne : S ≠ []
  lt : ∀ s ∈ S, s < n
  asc : S.Pairwise (· < ·)
theorem Stands.nodup {n : Nat} {S : List Nat} (h : Stands n S) : S.Nodup := h.asc.imp fun h => Nat.ne_of_lt h
theorem asc_len : ∀ {S : List Nat} {n : Nat}, S.Pairwise (· < ·) → (∀ s ∈ S, s < n) → S.length ≤ n := by
  intro S n h hl
  have key : ∀ (S : List Nat) (k : Nat), S.Pairwise (· < ·) → (∀ s ∈ S, k ≤ s ∧ s < n) → S.length ≤ n - k := by
    intro S
    induction S with
    | nil => intro k _ _; exact Nat.zero_le _
    | cons s S ih =>
      intro k h hl
      obtain ⟨h1, h2⟩ := List.pairwise_cons.mp h
      have := ih (s + 1) h2 fun x hx => ⟨h1 x hx, (hl x (List.mem_cons_of_mem _ hx)).2⟩
      have := hl s List.mem_cons_self
      rw [List.length_cons]
      omega
  have := key S 0 h fun s hs => ⟨Nat.zero_le _, hl s hs⟩
  omega
theorem Stands.len {n : Nat} {S : List Nat} (h : Stands n S) : S.length ≤ n := asc_len h.asc h.lt
theorem Stands.pos {n : Nat} {S : List Nat} (h : Stands n S) : 0 < S.length := List.length_pos_iff.mpr h.ne
/-! ### distinct -/
section
variable {α β : Type} [DecidableEq α] [DecidableEq β]
theorem same_len {a b : List α} (ha : a.Nodup) (hb : b.Nodup) (h : ∀ x, x ∈ a ↔ x ∈ b) : a.length = b.length := ((List.perm_ext_iff_of_nodup ha hb).mpr h).length_eq
theorem foldl_full : ∀ (xs ks : List α), (xs.foldl addk ks).length = ks.length + xs.length → xs.Nodup ∧ ∀ x ∈ xs, x ∉ ks
  | [], ks, _ => ⟨List.nodup_nil, fun _ z => nomatch z⟩
  | y :: xs, ks, h => by
    rw [List.foldl_cons, List.length_cons] at h
    have h1 := foldl_len xs (addk ks y)
    have h2 := addk_len ks y
    have h3 : (addk ks y).length = ks.length + 1 := by omega
    have hy : y ∉ ks := fun z => by
      unfold addk at h3
      rw [if_pos z] at h3
      omega
    obtain ⟨a, b⟩ := foldl_full xs (addk ks y) (by omega)
    refine ⟨List.nodup_cons.mpr ⟨fun z => b y z (addk_mem.mpr (.inr rfl)), a⟩, fun x hx z => ?_⟩
    rcases List.mem_cons.mp hx with rfl | hx
    · exact hy z
    · exact b x hx (addk_mem.mpr (.inl z))
theorem dist_full {xs : List α} : (dist xs).length = xs.length ↔ xs.Nodup := by
  constructor
  · intro h
    exact (foldl_full xs [] (by rw [List.length_nil, Nat.zero_add]; exact h)).1
  · intro h
    exact same_len (dist_nodup xs) h fun x => dist_mem
theorem nodup_map {f : α → β} {l : List α} (hl : l.Nodup) : (l.map f).Nodup ↔ ∀ x ∈ l, ∀ y ∈ l, f x = f y → x = y := by
  constructor
  · intro h x hx y hy e
    obtain ⟨i, hi⟩ := List.getElem?_of_mem hx
    obtain ⟨j, hj⟩ := List.getElem?_of_mem hy
    have h1 : (l.map f)[i]? = some (f x) := by rw [List.getElem?_map, hi]; rfl
    have h2 : (l.map f)[j]? = some (f x) := by rw [List.getElem?_map, hj, e]; rfl
    have ij : i = j := by
      have li := (List.getElem?_eq_some_iff.mp h1).1
      exact (List.getElem?_inj li h).mp (h1.trans h2.symm)
    subst ij
    exact Option.some.inj (hi.symm.trans hj)
  · intro h
    refine List.pairwise_map.mpr (List.Pairwise.imp_of_mem (fun {x y} hx hy ne e => ne (h x hx y hy e)) hl)
theorem dist_map {f : α → β} (xs : List α) : (dist (xs.map f)).length = (dist xs).length ↔ ∀ x ∈ xs, ∀ y ∈ xs, f x = f y → x = y := by
  have e1 : (dist (xs.map f)).length = (dist ((dist xs).map f)).length := same_len (dist_nodup _) (dist_nodup _) fun y => by
    rw [dist_mem, dist_mem, List.mem_map, List.mem_map]
    constructor
    · rintro ⟨x, hx, e⟩
      exact ⟨x, dist_mem.mpr hx, e⟩
    · rintro ⟨x, hx, e⟩
      exact ⟨x, dist_mem.mp hx, e⟩
  have e2 : (dist xs).length = ((dist xs).map f).length := (List.length_map _).symm
  rw [e1, e2, dist_full, nodup_map (dist_nodup xs)]
  constructor
  · intro h x hx y hy
    exact h x (dist_mem.mpr hx) y (dist_mem.mpr hy)
  · intro h x hx y hy
    exact h x (dist_mem.mp hx) y (dist_mem.mp hy)
theorem dist_one {xs : List α} (hn : xs ≠ []) : (dist xs).length = 1 ↔ ∀ x ∈ xs, ∀ y ∈ xs, x = y := by
  constructor
  · intro h x hx y hy
    obtain ⟨z, hz⟩ := List.length_eq_one_iff.mp h
    have h1 : x ∈ dist xs := dist_mem.mpr hx
    have h2 : y ∈ dist xs := dist_mem.mpr hy
    rw [hz] at h1 h2
    rw [List.mem_singleton.mp h1, List.mem_singleton.mp h2]
  · intro h
    obtain ⟨x, hx⟩ := List.exists_mem_of_ne_nil xs hn
    exact same_len (b := [x]) (dist_nodup xs) (by simp) fun y => by
      rw [dist_mem, List.mem_singleton]
      exact ⟨fun hy => h y hy x hx, fun e => e ▸ hx⟩
theorem dist_mapInj {f : α → β} (hf : ∀ x y, f x = f y → x = y) (xs : List α) : (dist (xs.map f)).length = (dist xs).length := (dist_map xs).mpr fun x _ y _ => hf x y
end
/-! ### reaching -/
def aimOk (aim : String) (s s' : Nat) (p p' : Nat × List Nat) : Prop :=
  if aim = "home" then p.1 = p'.1 else p.2 = p'.2 → if aim = "first" then s = s' else p.1 = p'.1
def Reach (t : Tab) (S : List Nat) (aim : String) (r : List Nat) : Prop := (∀ s ∈ S, walkF t s r ≠ none) ∧ ∀ s ∈ S, ∀ s' ∈ S, ∀ p p', walkF t s r = some p → walkF t s' r = some p' → aimOk aim s s' p p'
theorem kD_letters (ws : List Nat) : kD (lettersD ws) = .tup (ws.map fun (c : Nat) => NestedKey.num (c : Int)) := by
  unfold lettersD
  show NestedKey.tup (kDs _) = _
  congr 1
  induction ws with
  | nil => rfl
  | cons c ws ih =>
    show kD (.int (c : Int)) :: kDs _ = _
    rw [ih]
    rfl
theorem nums_inj : ∀ {a b : List Nat}, (a.map fun (c : Nat) => NestedKey.num (c : Int)) = (b.map fun (c : Nat) => NestedKey.num (c : Int)) → a = b
  | [], [], _ => rfl
  | [], _ :: _, h => by simp at h
  | _ :: _, [], h => by simp at h
  | x :: a, y :: b, h => by
    simp only [List.map_cons, List.cons.injEq, NestedKey.num.injEq] at h
    rw [nums_inj h.2]
    congr 1
    omega
theorem kD_letters_inj {a b : List Nat} (h : kD (lettersD a) = kD (lettersD b)) : a = b := by
  rw [kD_letters, kD_letters] at h
  injection h with h
  exact nums_inj h
theorem areNum_nums (ws : List Nat) : areNum (ws.map fun (c : Nat) => NestedKey.num (c : Int)) = true := by
  induction ws with
  | nil => rfl
  | cons c ws ih => simp [areNum, isNum, ih]
theorem depth_nums (ws : List Nat) : NestedKey.depthAll (ws.map fun (c : Nat) => NestedKey.num (c : Int)) = 0 := by
  induction ws with
  | nil => rfl
  | cons c ws ih => simp [NestedKey.depthAll, NestedKey.depth, ih]
theorem isNum_letters (ws : List Nat) : isNum (kD (lettersD ws)) = true := by
  rw [kD_letters]
  exact areNum_nums ws
theorem depth_letters (ws : List Nat) : (kD (lettersD ws)).depth = 1 := by
  rw [kD_letters]
  simp [NestedKey.depth, depth_nums]
theorem isKey_letters (ws : List Nat) : isKey (lettersD ws) = true := by rw [isKey_noL]; exact noL_letters ws
theorem key_letters {K : PySem.W.Frag} {H : Hp} {b : Addr} {ws : List Nat} (h : Dp K H (.ref b) (lettersD ws)) : IsKey K H b (kD (lettersD ws)) := ⟨_, isKey_letters ws, rfl, by rw [depth_letters]; decide, h⟩
def walkK (p : Nat × List Nat) : NestedKey := kD (walkD (some p))
theorem walkK_eq (p : Nat × List Nat) : walkK p = .tup [.num (p.1 : Nat), kD (lettersD p.2)] := rfl
theorem walkK_inj {p q : Nat × List Nat} (h : walkK p = walkK q) : p = q := by
  rw [walkK_eq, walkK_eq] at h
  simp only [NestedKey.tup.injEq, List.cons.injEq, NestedKey.num.injEq, and_true] at h
  obtain ⟨h1, h2⟩ := h
  exact Prod.ext (by omega) (kD_letters_inj h2)
theorem key_walk {K : PySem.W.Frag} {H : Hp} {b : Addr} {p : Nat × List Nat} (h : Dp K H (.ref b) (walkD (some p))) : IsKey K H b (walkK p) ∧ isNum (walkK p) = true := by
  refine ⟨⟨_, ?_, rfl, ?_, h⟩, ?_⟩
  · show areKeys [PyData.int (p.1 : Nat), lettersD p.2] = true
    simp [areKeys, isKey, isKey_letters]
  · rw [walkK_eq]
    simp [NestedKey.depth, NestedKey.depthAll, depth_letters]
  · rw [walkK_eq]
    simp [isNum, areNum, isNum_letters]
/-- by the walks of all stands -/
theorem reach_walks {t : Tab} {S : List Nat} {aim : String} {r : List Nat} {ps : List (Nat × List Nat)} (hS : S.Nodup) (h : S.map (fun s => walkF t s r) = ps.map some) :
    Reach t S aim r ↔ ∀ (i j : Nat) s s' p p', S[i]? = some s → S[j]? = some s' → ps[i]? = some p → ps[j]? = some p' → aimOk aim s s' p p' := by
  have at_ : ∀ (i : Nat) s, S[i]? = some s → ∃ p, ps[i]? = some p ∧ walkF t s r = some p := fun i s hs => by
    have e := congrArg (·[i]?) h
    simp only [List.getElem?_map, hs, Option.map_some] at e
    cases q : ps[i]? with
    | none => rw [q] at e; cases e
    | some p => rw [q] at e; exact ⟨p, rfl, Option.some.inj e⟩
  constructor
  · rintro ⟨_, h2⟩ i j s s' p p' hi hj hp hp'
    obtain ⟨q, e1, e2⟩ := at_ i s hi
    obtain ⟨q', e1', e2'⟩ := at_ j s' hj
    cases e1.symm.trans hp
    cases e1'.symm.trans hp'
    exact h2 s (List.mem_of_getElem? hi) s' (List.mem_of_getElem? hj) _ _ e2 e2'
  · intro k
    refine ⟨fun s hs => ?_, fun s hs s' hs' p p' e e' => ?_⟩
    · obtain ⟨i, hi⟩ := List.getElem?_of_mem hs
      obtain ⟨p, _, e⟩ := at_ i s hi
      rw [e]
      exact fun z => nomatch z
    · obtain ⟨i, hi⟩ := List.getElem?_of_mem hs
      obtain ⟨j, hj⟩ := List.getElem?_of_mem hs'
      obtain ⟨q, e1, e2⟩ := at_ i s hi
      obtain ⟨q', e1', e2'⟩ := at_ j s' hj
      cases e.symm.trans e2
      cases e'.symm.trans e2'
      exact k i j s s' p p' hi hj e1 e1'
theorem reach_home {t : Tab} {S : List Nat} {r : List Nat} {ps : List (Nat × List Nat)} (hS : S.Nodup) (hn : ps ≠ []) (h : S.map (fun s => walkF t s r) = ps.map some) : Reach t S "home" r ↔ (dist (ps.map fun p => ((p.1 : Nat) : Int))).length = 1 := by
  have ll : S.length = ps.length := by simpa using congrArg List.length h
  rw [reach_walks hS h, dist_one (by simpa using hn)]
  constructor
  · intro k x hx y hy
    obtain ⟨p, hp, rfl⟩ := List.mem_map.mp hx
    obtain ⟨q, hq, rfl⟩ := List.mem_map.mp hy
    obtain ⟨i, hi⟩ := List.getElem?_of_mem hp
    obtain ⟨j, hj⟩ := List.getElem?_of_mem hq
    have li := (List.getElem?_eq_some_iff.mp hi).1
    have lj := (List.getElem?_eq_some_iff.mp hj).1
    have z := k i j S[i] S[j] p q (List.getElem?_eq_getElem (by omega)) (List.getElem?_eq_getElem (by omega)) hi hj
    unfold aimOk at z
    rw [if_pos rfl] at z
    rw [z]
  · intro k i j s s' p p' _ _ hp hp'
    have z := k _ (List.mem_map.mpr ⟨p, List.mem_of_getElem? hp, rfl⟩) _ (List.mem_map.mpr ⟨p', List.mem_of_getElem? hp', rfl⟩)
    unfold aimOk
    rw [if_pos rfl]
    have z' : ((p.1 : Nat) : Int) = ((p'.1 : Nat) : Int) := z
    omega
theorem reach_last {t : Tab} {S : List Nat} {r : List Nat} {ps : List (Nat × List Nat)} (hS : S.Nodup) (h : S.map (fun s => walkF t s r) = ps.map some) : Reach t S "last" r ↔ (dist (ps.map fun p => kD (lettersD p.2))).length = (dist (ps.map walkK)).length := by
  have ll : S.length = ps.length := by simpa using congrArg List.length h
  rw [reach_walks hS h, dist_mapInj (fun x y => walkK_inj) ps, dist_map]
  constructor
  · intro k p hp q hq e
    obtain ⟨i, hi⟩ := List.getElem?_of_mem hp
    obtain ⟨j, hj⟩ := List.getElem?_of_mem hq
    have li := (List.getElem?_eq_some_iff.mp hi).1
    have lj := (List.getElem?_eq_some_iff.mp hj).1
    have z := k i j S[i] S[j] p q (List.getElem?_eq_getElem (by omega)) (List.getElem?_eq_getElem (by omega)) hi hj
    unfold aimOk at z
    rw [if_neg (by decide)] at z
    have e' := kD_letters_inj e
    have z2 := z e'
    rw [if_neg (by decide)] at z2
    exact Prod.ext z2 e'
  · intro k i j s s' p p' _ _ hp hp'
    unfold aimOk
    rw [if_neg (by decide)]
    intro e
    rw [if_neg (by decide), k p (List.mem_of_getElem? hp) p' (List.mem_of_getElem? hp') (by rw [e])]
theorem reach_first {t : Tab} {S : List Nat} {r : List Nat} {ps : List (Nat × List Nat)} (hS : S.Nodup) (h : S.map (fun s => walkF t s r) = ps.map some) : Reach t S "first" r ↔ (dist (ps.map fun p => kD (lettersD p.2))).length = ps.length := by
  have ll : S.length = ps.length := by simpa using congrArg List.length h
  have e0 : ps.length = (ps.map fun p => kD (lettersD p.2)).length := (List.length_map _).symm
  rw [reach_walks hS h, e0, dist_full]
  constructor
  · intro k
    refine List.pairwise_iff_getElem.mpr fun i j il jl ij e => ?_
    rw [List.length_map] at il jl
    rw [List.getElem_map, List.getElem_map] at e
    have e' := kD_letters_inj e
    have z := k i j S[i] S[j] ps[i] ps[j] (List.getElem?_eq_getElem (by omega)) (List.getElem?_eq_getElem (by omega)) (List.getElem?_eq_getElem il) (List.getElem?_eq_getElem jl)
    unfold aimOk at z
    rw [if_neg (by decide)] at z
    have z2 := z e'
    rw [if_pos rfl] at z2
    have z3 : S[i]? = S[j]? := by rw [List.getElem?_eq_getElem (by omega : i < S.length), List.getElem?_eq_getElem (by omega : j < S.length), z2]
    have z4 := (List.getElem?_inj (by omega : i < S.length) hS).mp z3
    omega
  · intro k i j s s' p p' hi hj hp hp'
    unfold aimOk
    rw [if_neg (by decide)]
    intro e
    rw [if_pos rfl]
    have h1 : (ps.map fun p => kD (lettersD p.2))[i]? = some (kD (lettersD p.2)) := by rw [List.getElem?_map, hp]; rfl
    have h2 : (ps.map fun p => kD (lettersD p.2))[j]? = some (kD (lettersD p.2)) := by rw [List.getElem?_map, hp', e]; rfl
    have ij := (List.getElem?_inj (List.getElem?_eq_some_iff.mp h1).1 k).mp (h1.trans h2.symm)
    subst ij
    exact Option.some.inj (hi.symm.trans hj)

/-! ### dicts with such keys -/
theorem nAt_put (xs : List NE) (k : NestedKey) (b : Addr) (v : V) (k' : NestedKey) : nAt (nPut xs k b v) k' = if k' = k then some v else nAt xs k' := by
  unfold nPut
  cases c : nAt xs k with
  | some u =>
    rw [if_pos (show (some u).isSome = true from rfl)]
    have key : ∀ xs : List NE, nAt (xs.map (nPutAt k v)) k' = if k' = k then (nAt xs k').map (fun _ => v) else nAt xs k' := by
      intro xs
      induction xs with
      | nil => simp [nAt]
      | cons x xs ih =>
        obtain ⟨x1, x2, x3⟩ := x
        by_cases e : x1 = k'
        · subst e
          by_cases e2 : x1 = k
          · simp [nAt, nPutAt, e2]
          · simp [nAt, nPutAt, e2]
        · have z1 : nAt ((x1, x2, x3) :: xs) k' = nAt xs k' := by simp [nAt, List.find?_cons, e]
          have z2 : nAt (((x1, x2, x3) :: xs).map (nPutAt k v)) k' = nAt (xs.map (nPutAt k v)) k' := by
            rw [List.map_cons]
            unfold nPutAt
            by_cases e2 : x1 = k
            · rw [if_pos e2]
              simp [nAt, List.find?_cons, e]
            · rw [if_neg e2]
              simp [nAt, List.find?_cons, e]
          rw [z1, z2, ih]
    rw [key]
    by_cases e : k' = k
    · rw [if_pos e, if_pos e, e, c]
      rfl
    · rw [if_neg e, if_neg e]
  | none =>
    rw [if_neg (by simp)]
    have key : ∀ xs : List NE, nAt (xs ++ [(k, b, v)]) k' = (nAt xs k').or (if k' = k then some v else none) := by
      intro xs
      induction xs with
      | nil =>
        by_cases e : k' = k
        · subst e
          simp [nAt]
        · have e2 : ¬ k = k' := fun z => e z.symm
          simp [nAt, List.find?_cons, e, e2]
      | cons x xs ih =>
        obtain ⟨x1, x2, x3⟩ := x
        by_cases e : x1 = k'
        · simp [nAt, e]
        · have z1 : nAt ((x1, x2, x3) :: xs) k' = nAt xs k' := by simp [nAt, List.find?_cons, e]
          have z2 : nAt ((x1, x2, x3) :: xs ++ [(k, b, v)]) k' = nAt (xs ++ [(k, b, v)]) k' := by
            rw [List.cons_append]
            simp [nAt, List.find?_cons, e]
          rw [z1, z2, ih]
    rw [key]
    by_cases e : k' = k
    · rw [if_pos e, e, c, if_pos rfl]
      rfl
    · rw [if_neg e, Option.or_none, if_neg e]
theorem nPut_mem {xs : List NE} {k : NestedKey} {b : Addr} {v : V} {x : NE} (h : x ∈ nPut xs k b v) : (∃ y ∈ xs, x.1 = y.1 ∧ x.2.1 = y.2.1) ∨ (x.1 = k ∧ x.2.1 = b) := by
  unfold nPut at h
  split at h
  · obtain ⟨y, hy, rfl⟩ := List.mem_map.mp h
    refine .inl ⟨y, hy, ?_⟩
    unfold nPutAt
    split <;> exact ⟨rfl, rfl⟩
  · rcases List.mem_append.mp h with h | h
    · exact .inl ⟨x, h, rfl, rfl⟩
    · rw [List.mem_singleton.mp h]
      exact .inr ⟨rfl, rfl⟩
theorem ND.put {K : PySem.W.Frag} {P : Program} {w : World} {H : Hp} {a b : Addr} {xs : List NE} {k : NestedKey} {v : V} (nd : ND K P w H a xs) (hb : IsKey K H b k) : ND K P w (upd H a (NDO P w a (nPut xs k b v))) a (nPut xs k b v) := by
  refine ⟨upd_same, fun x hx => ?_⟩
  rcases nPut_mem hx with ⟨y, hy, e1, e2⟩ | ⟨e1, e2⟩
  · rw [e1, e2]
    exact (nd.keys y hy).upd nd.at_
  · rw [e1, e2]
    exact hb.upd nd.at_
theorem ND.new {K : PySem.W.Frag} {P : Program} {w : World} {H : Hp} {a : Addr} : ND K P w (upd H a (NDO P w a [])) a [] := ⟨upd_same, fun _ z => nomatch z⟩
theorem ND.same {K : PySem.W.Frag} {P : Program} {w : World} {H H' : Hp} {a : Addr} {xs : List NE} (nd : ND K P w H a xs) (s : Same H H') : ND K P w H' a xs := ⟨s _ _ nd.at_, fun x hx => (nd.keys x hx).same s⟩
theorem not_take {S : List Nat} (hS : S.Nodup) {i c : Nat} (hc : S[i]? = some c) : c ∉ S.take i := fun z => by
  obtain ⟨j, hj⟩ := List.getElem?_of_mem z
  have lj := (List.getElem?_eq_some_iff.mp hj).1
  rw [List.length_take] at lj
  rw [List.getElem?_take_of_lt (by omega)] at hj
  have := (List.getElem?_inj (by omega : j < S.length) hS).mp (hj.trans hc.symm)
  omega
end WS
namespace WS
open PySem L2
def top (i : Nat) : Stmt := PySem.Challenge.pw_whichstand_k04_whole_reaches.main.body.getD i (.Pass ⟨0, 0, 0, 0⟩)
abbrev s_is_below : Stmt := top 10
abbrev N_is_below : List Str := ["value", "limit"]
abbrev P_is_below : List Str := ["value", "limit"]
theorem sc_is_below : FnScope N_is_below P_is_below (defScope s_is_below) := ⟨rfl, rfl, rfl, by decide +kernel, rfl, by decide +kernel, by decide +kernel⟩
abbrev s_is_ascending : Stmt := top 11
abbrev N_is_ascending : List Str := ["values", "one", "other"]
abbrev P_is_ascending : List Str := ["values"]
theorem sc_is_ascending : FnScope N_is_ascending P_is_ascending (defScope s_is_ascending) := ⟨rfl, rfl, rfl, by decide +kernel, rfl, by decide +kernel, by decide +kernel⟩
abbrev s_is_block : Stmt := top 12
abbrev N_is_block : List Str := ["machine", "value", "stand"]
abbrev P_is_block : List Str := ["machine", "value"]
theorem sc_is_block : FnScope N_is_block P_is_block (defScope s_is_block) := ⟨rfl, rfl, rfl, by decide +kernel, rfl, by decide +kernel, by decide +kernel⟩
abbrev s_check_stand : Stmt := top 13
abbrev N_check_stand : List Str := ["machine", "value"]
abbrev P_check_stand : List Str := ["machine", "value"]
theorem sc_check_stand : FnScope N_check_stand P_check_stand (defScope s_check_stand) := ⟨rfl, rfl, rfl, by decide +kernel, rfl, by decide +kernel, by decide +kernel⟩
abbrev s_check_stands : Stmt := top 14
abbrev N_check_stands : List Str := ["machine", "value"]
abbrev P_check_stands : List Str := ["machine", "value"]
theorem sc_check_stands : FnScope N_check_stands P_check_stands (defScope s_check_stands) := ⟨rfl, rfl, rfl, by decide +kernel, rfl, by decide +kernel, by decide +kernel⟩
abbrev s_check_aim : Stmt := top 15
abbrev N_check_aim : List Str := ["value", "aims"]
abbrev P_check_aim : List Str := ["value", "aims"]
theorem sc_check_aim : FnScope N_check_aim P_check_aim (defScope s_check_aim) := ⟨rfl, rfl, rfl, by decide +kernel, rfl, by decide +kernel, by decide +kernel⟩
abbrev s_check_row : Stmt := top 16
abbrev N_check_row : List Str := ["machine", "value", "index", "letter"]
abbrev P_check_row : List Str := ["machine", "value"]
theorem sc_check_row : FnScope N_check_row P_check_row (defScope s_check_row) := ⟨rfl, rfl, rfl, by decide +kernel, rfl, by decide +kernel, by decide +kernel⟩
abbrev s_Machine_init : Stmt := inClass (top 21) 0
abbrev N_Machine_init : List Str := ["self", "table"]
abbrev P_Machine_init : List Str := ["self", "table"]
theorem sc_Machine_init : FnScope N_Machine_init P_Machine_init (defScope s_Machine_init) := ⟨rfl, rfl, rfl, by decide +kernel, rfl, by decide +kernel, by decide +kernel⟩
abbrev s_Machine_len : Stmt := inClass (top 21) 1
abbrev N_Machine_len : List Str := ["self"]
abbrev P_Machine_len : List Str := ["self"]
theorem sc_Machine_len : FnScope N_Machine_len P_Machine_len (defScope s_Machine_len) := ⟨rfl, rfl, rfl, by decide +kernel, rfl, by decide +kernel, by decide +kernel⟩
abbrev s_Machine_eq : Stmt := inClass (top 21) 2
abbrev N_Machine_eq : List Str := ["self", "other"]
abbrev P_Machine_eq : List Str := ["self", "other"]
theorem sc_Machine_eq : FnScope N_Machine_eq P_Machine_eq (defScope s_Machine_eq) := ⟨rfl, rfl, rfl, by decide +kernel, rfl, by decide +kernel, by decide +kernel⟩
abbrev s_Machine_table : Stmt := inClass (top 21) 3
abbrev N_Machine_table : List Str := ["self"]
abbrev P_Machine_table : List Str := ["self"]
theorem sc_Machine_table : FnScope N_Machine_table P_Machine_table (defScope s_Machine_table) := ⟨rfl, rfl, rfl, by decide +kernel, rfl, by decide +kernel, by decide +kernel⟩
abbrev s_Machine_letters : Stmt := inClass (top 21) 4
abbrev N_Machine_letters : List Str := ["self"]
abbrev P_Machine_letters : List Str := ["self"]
theorem sc_Machine_letters : FnScope N_Machine_letters P_Machine_letters (defScope s_Machine_letters) := ⟨rfl, rfl, rfl, by decide +kernel, rfl, by decide +kernel, by decide +kernel⟩
abbrev s_walk : Stmt := top 22
abbrev N_walk : List Str := ["machine", "stand", "row", "at", "written", "letter", "step"]
abbrev P_walk : List Str := ["machine", "stand", "row"]
theorem sc_walk : FnScope N_walk P_walk (defScope s_walk) := ⟨rfl, rfl, rfl, by decide +kernel, rfl, by decide +kernel, by decide +kernel⟩
abbrev s__check_table : Stmt := top 23
abbrev N__check_table : List Str := ["value", "index", "steps"]
abbrev P__check_table : List Str := ["value"]
theorem sc__check_table : FnScope N__check_table P__check_table (defScope s__check_table) := ⟨rfl, rfl, rfl, by decide +kernel, rfl, by decide +kernel, by decide +kernel⟩
abbrev s__is_table_row : Stmt := top 24
abbrev N__is_table_row : List Str := ["value", "stands", "step"]
abbrev P__is_table_row : List Str := ["value", "stands"]
theorem sc__is_table_row : FnScope N__is_table_row P__is_table_row (defScope s__is_table_row) := ⟨rfl, rfl, rfl, by decide +kernel, rfl, by decide +kernel, by decide +kernel⟩
abbrev s__is_step : Stmt := top 25
abbrev N__is_step : List Str := ["value", "stands"]
abbrev P__is_step : List Str := ["value", "stands"]
theorem sc__is_step : FnScope N__is_step P__is_step (defScope s__is_step) := ⟨rfl, rfl, rfl, by decide +kernel, rfl, by decide +kernel, by decide +kernel⟩
abbrev s_reaches : Stmt := top 27
abbrev N_reaches : List Str := ["machine", "stands", "aim", "row", "walks", "unlike", "stand", "_", "written", "at"]
abbrev P_reaches : List Str := ["machine", "stands", "aim", "row"]
theorem sc_reaches : FnScope N_reaches P_reaches (defScope s_reaches) := ⟨rfl, rfl, rfl, by decide +kernel, rfl, by decide +kernel, by decide +kernel⟩
abbrev s__law_mix : Stmt := top 29
abbrev N__law_mix : List Str := ["_law_script", "_law_seed", "_law_state", "_law_cell"]
abbrev P__law_mix : List Str := ["_law_script", "_law_seed"]
theorem sc__law_mix : FnScope N__law_mix P__law_mix (defScope s__law_mix) := ⟨rfl, rfl, rfl, by decide +kernel, rfl, by decide +kernel, by decide +kernel⟩
abbrev s__law_next : Stmt := top 30
abbrev N__law_next : List Str := ["_law_h", "_law_cap", "_law_cell"]
abbrev P__law_next : List Str := ["_law_h", "_law_cap"]
theorem sc__law_next : FnScope N__law_next P__law_next (defScope s__law_next) := ⟨rfl, rfl, rfl, by decide +kernel, rfl, by decide +kernel, by decide +kernel⟩
abbrev s__law_alike : Stmt := top 31
abbrev N__law_alike : List Str := ["_law_found", "_law_due", "_law_k"]
abbrev P__law_alike : List Str := ["_law_found", "_law_due"]
theorem sc__law_alike : FnScope N__law_alike P__law_alike (defScope s__law_alike) := ⟨rfl, rfl, rfl, by decide +kernel, rfl, by decide +kernel, by decide +kernel⟩
abbrev s__law_pick : Stmt := top 32
abbrev N__law_pick : List Str := ["_law_h", "_law_things"]
abbrev P__law_pick : List Str := ["_law_h", "_law_things"]
theorem sc__law_pick : FnScope N__law_pick P__law_pick (defScope s__law_pick) := ⟨rfl, rfl, rfl, by decide +kernel, rfl, by decide +kernel, by decide +kernel⟩
abbrev s__law_table : Stmt := top 33
abbrev N__law_table : List Str := ["_law_h", "_law_many", "_law_letters", "_law_cap", "_law_lacks", "_law_near", "_law_rows", "_law_stand", "_law_row_here", "_law_letter", "_law_goal", "_law_sign"]
abbrev P__law_table : List Str := ["_law_h"]
theorem sc__law_table : FnScope N__law_table P__law_table (defScope s__law_table) := ⟨rfl, rfl, rfl, by decide +kernel, rfl, by decide +kernel, by decide +kernel⟩
abbrev s__law_stands : Stmt := top 34
abbrev N__law_stands : List Str := ["_law_h", "_law_table_here", "_law_found", "_law_stand"]
abbrev P__law_stands : List Str := ["_law_h", "_law_table_here"]
theorem sc__law_stands : FnScope N__law_stands P__law_stands (defScope s__law_stands) := ⟨rfl, rfl, rfl, by decide +kernel, rfl, by decide +kernel, by decide +kernel⟩
abbrev s__law_walk : Stmt := top 35
abbrev N__law_walk : List Str := ["_law_table_here", "_law_stand", "_law_row_here", "_law_here", "_law_signs", "_law_letter", "_law_step"]
abbrev P__law_walk : List Str := ["_law_table_here", "_law_stand", "_law_row_here"]
theorem sc__law_walk : FnScope N__law_walk P__law_walk (defScope s__law_walk) := ⟨rfl, rfl, rfl, by decide +kernel, rfl, by decide +kernel, by decide +kernel⟩
abbrev s__law_row : Stmt := top 36
abbrev N__law_row : List Str := ["_law_h", "_law_table_here", "_law_many", "_law_k"]
abbrev P__law_row : List Str := ["_law_h", "_law_table_here", "_law_many"]
theorem sc__law_row : FnScope N__law_row P__law_row (defScope s__law_row) := ⟨rfl, rfl, rfl, by decide +kernel, rfl, by decide +kernel, by decide +kernel⟩
abbrev s__law_reached : Stmt := top 37
abbrev N__law_reached : List Str := ["_law_table_here", "_law_stands_here", "_law_aim", "_law_row_here", "_law_known", "_law_stand", "_law_found", "_law_sign"]
abbrev P__law_reached : List Str := ["_law_table_here", "_law_stands_here", "_law_aim", "_law_row_here"]
theorem sc__law_reached : FnScope N__law_reached P__law_reached (defScope s__law_reached) := ⟨rfl, rfl, rfl, by decide +kernel, rfl, by decide +kernel, by decide +kernel⟩
abbrev s_law : Stmt := top 38
abbrev N_law : List Str := ["_law_script", "_law_h", "_law_turn", "_law_table_here", "_law_machine", "_law_stands_here", "_law_many", "_law_row_here", "_law_found", "_law_aim"]
abbrev P_law : List Str := ["_law_script"]
theorem sc_law : FnScope N_law P_law (defScope s_law) := ⟨rfl, rfl, rfl, by decide +kernel, rfl, by decide +kernel, by decide +kernel⟩
local macro_rules | `(tactic| walk_at "rd1") => `(tactic| first
  | refine ⟨_, rfl, ?_⟩
  | refine ⟨_, _, rfl, rfl, ?_⟩
  | refine .inl ⟨_, rfl, ?_⟩
  | refine ⟨.inr ⟨by decide, by decide⟩, ?_⟩
  | refine ⟨by intro z; omega, ?_⟩)
local macro_rules | `(tactic| walk_at "rd") => `(tactic| repeat walk_at "rd1")
section
variable {P : Program} {w : World} {K : PySem.W.Frag} {mg : Str → Option Value} {base : Heap}
/-! ### is_below -/
def below (v : V) (n : Int) : Bool := match v with
  | .int i => decide (0 ≤ i) && decide (i < n)
  | _ => false
def spBelow (K : PySem.W.Frag) : Sp := fun vs H Q _ => ∃ (v : V) (t : String) (n : Int), vs = [v, .int n] ∧ AnyV K H v t ∧ Q (.bl (below v n)) H
theorem ok_is_below {f : Addr} {fd : FuncData} (F : Fun K "is_below" "is_below" s_is_below f fd) (B : Blt mg) : FnOk P w K mg base CX0 1 f fd P_is_below (spBelow K) := by
  refine F.ok sc_is_below (fun vs H Q E h => ?_) (fun cdv A outer s H vs Q E hr h => ?_)
  · obtain ⟨v, t, n, rfl, _⟩ := h
    rfl
  · obtain ⟨v, t, n, rfl, hv, k⟩ := h
    refine ⟨_, (pss_cons (ps_if (PW.pt (pw_or (pt_val (pe_callB (k_isi K) (by rfl) B.n_isinstance (by decide +kernel) (pa_cons (pv 0) (pa_cons (pe_bltn (v := .ty "bool") (u := .type "bool") (by rfl) B.n_bool (by decide +kernel) rfl) pa_nil)))) (pw_or1 (pt_not (pt_val (pe_callB (k_isi K) (by rfl) B.n_isinstance (by decide +kernel) (pa_cons (pv 0) (pa_cons (pe_bltn (v := .ty "int") (u := .type "int") (by rfl) B.n_int (by decide +kernel) rfl) pa_nil)))))))) (pss_one (ps_ret pe_bl)) pss_nil)
 (pss_one (ps_ret (pe_chain op_le op_lt pe_int (pv 0) (pv 1))))), ?_⟩
    obtain ⟨b1, b2, e1, e2, q1, q2⟩ : ∃ b1 b2 : Bool, kitB t "bool" = some b1 ∧ kitB t "int" = some b2 ∧ ((b1 || !b2) = true → below v n = false) ∧ ((b1 || !b2) = false → ∃ i, v = .int i) := by
      cases hv with
      | int i => exact ⟨false, true, by decide +kernel, by decide +kernel, fun q => (nomatch q), fun _ => ⟨i, rfl⟩⟩
      | non => exact ⟨false, false, by decide +kernel, by decide +kernel, fun _ => rfl, fun q => (nomatch q)⟩
      | bl b => exact ⟨true, true, by decide +kernel, by decide +kernel, fun _ => rfl, fun q => (nomatch q)⟩
      | str z => exact ⟨false, false, by decide +kernel, by decide +kernel, fun _ => rfl, fun q => (nomatch q)⟩
      | lst h => exact ⟨false, false, by decide +kernel, by decide +kernel, fun _ => rfl, fun q => (nomatch q)⟩
      | tup h => exact ⟨false, false, by decide +kernel, by decide +kernel, fun _ => rfl, fun q => (nomatch q)⟩
      | dct h => exact ⟨false, false, by decide +kernel, by decide +kernel, fun _ => rfl, fun q => (nomatch q)⟩
    refine ⟨_, rfl, _, _, _, _, b1, rfl, .ty "bool", hv.ty, kit_any e1, b1, rfl, ?_⟩
    cases b1 with
    | true => exact iteT (by rw [q1 rfl] at k; exact k)
    | false =>
      refine iteF ⟨_, rfl, _, _, _, _, b2, rfl, .ty "int", hv.ty, kit_any e2, b2, rfl, ?_⟩
      cases b2 with
      | false => exact iteT (by rw [q1 rfl] at k; exact k)
      | true =>
        obtain ⟨i, rfl⟩ := q2 rfl
        refine iteF ⟨_, rfl, _, _, rfl, rfl, _, rfl, ?_⟩
        by_cases c : (0 : Int) ≤ i
        · rw [decide_eq_true c]
          refine iteT ⟨_, rfl, _, _, rfl, rfl, ?_⟩
          have e : below (.int i) n = decide (i < n) := by simp [below, c]
          rw [e] at k
          exact k
        · rw [decide_eq_false c]
          refine iteF ?_
          have e : below (.int i) n = false := by simp [below, c]
          rw [e] at k
          exact k
/-! ### _is_step, _is_table_row -/
theorem below_d {H : Hp} {v : V} {d : PyData} (h : Dp K H v d) (n : Int) : below v n = belowD n d := by
  cases h <;> rfl
def spStep (K : PySem.W.Frag) : Sp := fun vs H Q _ => ∃ (v : V) (d : PyData) (n : Int), vs = [v, .int n] ∧ Dp K H v d ∧ Q (.bl (stepOk n d)) H
theorem ok_is_step {f : Addr} {fd : FuncData} (F : Fun K "_is_step" "_is_step" s__is_step f fd) (B : Blt mg) {tk : Tok} (g_WRITTEN_LETTERS : mg "WRITTEN_LETTERS" = some (.int 4 tk))
    (G_is_below : DefK P w K mg base CX0 1 "is_below" P_is_below (spBelow K)) : FnOk P w K mg base CX0 2 f fd P__is_step (spStep K) := by
  refine F.ok sc__is_step (fun vs H Q E h => ?_) (fun cdv A outer s H vs Q E hr h => ?_)
  · obtain ⟨v, d, n, rfl, _⟩ := h
    rfl
  · obtain ⟨v, d, n, rfl, dv, k⟩ := h
    refine ⟨_, (pss_cons (ps_if (pt_cmpR op_isN (pv 0) pe_non (nomark _)) (pss_one (ps_ret pe_bl)) pss_nil)
 (pss_cons (ps_if (PW.pt (pw_or (pt_not (pt_val (pe_callB (k_isi K) (by rfl) B.n_isinstance (by decide +kernel) (pa_cons (pv 0) (pa_cons (pe_bltn (v := .ty "tuple") (u := .type "tuple") (by rfl) B.n_tuple (by decide +kernel) rfl) pa_nil))))) (pw_or1 (pt_cmpR op_ne (pe_callB (k_len K) (by rfl) B.n_len boot_len (pa_cons (pv 0) pa_nil)) pe_int (nomark _))))) (pss_one (ps_ret pe_bl)) pss_nil)
 (pss_one (ps_ret (pe_and (pe_def G_is_below (hr.mono (by omega)) (by rfl) (pa_cons (pe_ix (k_ixT K) (pv 0) pe_int (fun _ _ => rfl)) (pa_cons (pv 1) pa_nil))) (pe_one (pe_def G_is_below (hr.mono (by omega)) (by rfl) (pa_cons (pe_ix (k_ixT K) (pv 0) pe_int (fun _ _ => rfl)) (pa_cons (pe_gI (by rfl) g_WRITTEN_LETTERS) pa_nil))))))))), ?_⟩
    refine ⟨_, rfl, rfl, _, rfl, ?_⟩
    by_cases hv : v = .non
    · subst hv
      cases dv
      rw [decide_eq_true rfl]
      exact k
    rw [decide_eq_false hv]
    have tv := dp_ty dv
    obtain ⟨e1, e2⟩ | ⟨ds, rfl⟩ : (kitB (tyD d) "tuple" = some false ∧ stepOk n d = false) ∨ ∃ ds, d = .tuple ds := by
      cases dv with
      | non => exact absurd rfl hv
      | bl b => exact .inl ⟨(show kitB "bool" "tuple" = some false by decide +kernel), rfl⟩
      | int b => exact .inl ⟨(show kitB "int" "tuple" = some false by decide +kernel), rfl⟩
      | str b => exact .inl ⟨(show kitB "str" "tuple" = some false by decide +kernel), rfl⟩
      | lst _ _ => exact .inl ⟨(show kitB "list" "tuple" = some false by decide +kernel), rfl⟩
      | tup _ _ => exact .inr ⟨_, rfl⟩
    · refine ⟨_, rfl, _, _, _, _, false, rfl, .ty _, tv.ty, kit_any e1, _, rfl, ?_⟩
      rw [e2] at k
      exact k
    · obtain ⟨a, xs, rfl, sx, al⟩ := dp_tup dv
      have lx := dps_len al
      refine ⟨_, rfl, _, _, _, _, true, rfl, .ty _, tv.ty, kit_any (show kitB "tuple" "tuple" = some true by decide +kernel), _, rfl, _, rfl, a, xs, rfl, .inr sx, rfl, _, rfl, ?_⟩
      by_cases h2 : xs.length = 2
      · have e : decide (V.int ((xs.length : Nat) : Int) = V.int 2) = true := decide_eq_true (by rw [h2]; rfl)
        rw [e]
        obtain ⟨d1, d2, rfl⟩ := len_two (lx.symm.trans h2)
        cases al with
        | cons q1 al =>
          cases al with
          | cons q2 al =>
            cases al
            obtain ⟨t1, a1⟩ := dp_any q1
            obtain ⟨t2, a2⟩ := dp_any q2
            rw [stepOk_two] at k
            refine ⟨_, rfl, a, _, _, _, rfl, rfl, sx, rfl, _, rfl, _, t1, n, rfl, a1, _, rfl, ?_⟩
            rw [below_d q1]
            cases eb : belowD n d1 with
            | false =>
              rw [eb] at k
              exact k
            | true =>
              rw [eb] at k
              refine ⟨_, rfl, a, _, _, _, rfl, rfl, sx, rfl, _, t2, 4, rfl, a2, ?_⟩
              rw [below_d q2]
              exact k
      · have e : decide (V.int ((xs.length : Nat) : Int) = V.int 2) = false := decide_eq_false (fun z => h2 (by have := V.int.inj z; omega))
        rw [e]
        rw [stepOk_long (fun z => h2 (lx.trans z))] at k
        exact k
def spRowOk (K : PySem.W.Frag) : Sp := fun vs H Q _ => ∃ (v : V) (d : PyData) (n : Int), vs = [v, .int n] ∧ Dp K H v d ∧ ∀ H', Same H H' → Q (.bl (rowOk n d)) H'
theorem ok_is_table_row {f : Addr} {fd : FuncData} (F : Fun K "_is_table_row" "_is_table_row" s__is_table_row f fd) (B : Blt mg) {lc : Addr} (g_LETTER_COUNTS : mg "LETTER_COUNTS" = some (.ref lc)) (hLC : ∀ H : Hp, SqT K H lc [.int 2, .int 3])
    (G__is_step : DefK P w K mg base CX0 2 "_is_step" P__is_step (spStep K)) : FnOk P w K mg base CX0 3 f fd P__is_table_row (spRowOk K) := by
  refine F.ok sc__is_table_row (fun vs H Q E h => ?_) (fun cdv A outer s H vs Q E hr h => ?_)
  · obtain ⟨v, d, n, rfl, _⟩ := h
    rfl
  · obtain ⟨v, d, n, rfl, dv, k⟩ := h
    refine ⟨_, (pss_cons (ps_if (PW.pt (pw_or (pt_not (pt_val (pe_callB (k_isi K) (by rfl) B.n_isinstance (by decide +kernel) (pa_cons (pv 0) (pa_cons (pe_bltn (v := .ty "tuple") (u := .type "tuple") (by rfl) B.n_tuple (by decide +kernel) rfl) pa_nil))))) (pw_or1 (pt_cmpR (k_notIn K) (pe_callB (k_len K) (by rfl) B.n_len boot_len (pa_cons (pv 0) pa_nil)) (pe_gR (by rfl) g_LETTER_COUNTS) (by rfl))))) (pss_one (ps_ret pe_bl)) pss_nil)
 (pss_one (ps_ret (pe_callB (k_all K rfl) (by rfl) B.n_all (by decide +kernel) (pa_cons (pe_lc (own := ([("step", 2)] : List (Str × Nat))) (g := gName 2) (tt := tYes) rfl sc__is_table_row.nd (k_pit K (pv 0)) (blkOk_by (own := ([("step", 2)] : List (Str × Nat))) (N := N__is_table_row) (sc := defScope s__is_table_row) (by decide +kernel)) (fun _ _ _ _ _ => by exact (pg_name (i := 2) sc__is_table_row.nd rfl (Or.inl rfl))) (fun _ _ _ _ _ => by exact pts_nil) (fun _ _ _ _ _ => by exact (pe_def G__is_step (hr.mono (by omega)) (by rfl) (pa_cons (pv 2) (pa_cons (pv 1) pa_nil))))) pa_nil))))), ?_⟩
    have tv := dp_ty dv
    obtain ⟨e1, e2⟩ | ⟨ds, rfl⟩ : (kitB (tyD d) "tuple" = some false ∧ rowOk n d = false) ∨ ∃ ds, d = .tuple ds := by
      cases dv with
      | non => exact .inl ⟨(show kitB "NoneType" "tuple" = some false by decide +kernel), rfl⟩
      | bl b => exact .inl ⟨(show kitB "bool" "tuple" = some false by decide +kernel), rfl⟩
      | int b => exact .inl ⟨(show kitB "int" "tuple" = some false by decide +kernel), rfl⟩
      | str b => exact .inl ⟨(show kitB "str" "tuple" = some false by decide +kernel), rfl⟩
      | lst _ _ => exact .inl ⟨(show kitB "list" "tuple" = some false by decide +kernel), rfl⟩
      | tup _ _ => exact .inr ⟨_, rfl⟩
    · refine ⟨_, rfl, _, _, _, _, false, rfl, .ty _, tv.ty, kit_any e1, _, rfl, ?_⟩
      have k' := k H (Same.refl H)
      rw [e2] at k'
      exact k'
    · obtain ⟨a, xs, rfl, sx, al⟩ := dp_tup dv
      have lx := dps_len al
      have inv : inV (.int ((xs.length : Nat) : Int)) [.int 2, .int 3] = (decide (ds.length = 2) || decide (ds.length = 3)) := by
        rw [Bool.eq_iff_iff]
        simp [inV, eqV, lx]
        omega
      refine ⟨_, rfl, _, _, _, _, true, rfl, .ty _, tv.ty, kit_any (show kitB "tuple" "tuple" = some true by decide +kernel), _, rfl, _, rfl, a, xs, rfl, .inr sx, lc, _, rfl, .inr (hLC H), rfl, rfl, _, rfl, ?_⟩
      rw [if_pos rfl, inv]
      cases eb : (decide (ds.length = 2) || decide (ds.length = 3)) with
      | false =>
        have k' := k H (Same.refl H)
        have er : rowOk n (.tuple ds) = false := by
          show ((decide (ds.length = 2) || decide (ds.length = 3)) && ds.all (stepOk n)) = false
          rw [eb]
          rfl
        rw [er] at k'
        exact k'
      | true =>
        refine ⟨_, rfl, a, rfl, ⟨_, sx⟩, fun D hD => lc_tup (K := K) (a := a) (xs := xs) (fun i H' => Same H H' ∧ H' D = some (.lst (((ds.take i).map (stepOk n)).map V.bl))) ⟨same_new hD _, upd_same⟩ (fun i H' _ z => seqT z.1 sx) ?_ ?_⟩
        · rintro i x H1 hx ⟨s1, eD⟩
          obtain ⟨d, hd, dx⟩ := dps_getV (dps_same s1 al) hx
          refine ⟨rfl, _, rfl, _, rfl, x, d, n, rfl, dx, _, eD, ?_, ?_, ?_⟩
          · rw [List.length_map, List.length_map, List.length_take]
            have : ds.length = 2 ∨ ds.length = 3 := by simpa using eb
            exact small1000 (by omega)
          · intro b o e
            rw [upd_ne (ne_of_none e hD)]
            exact s1 b o e
          · rw [upd_same, take_more hd, List.map_append, List.map_append]
            rfl
        · rintro H1 ⟨s1, eD⟩
          rw [lx, List.take_length] at eD
          refine ⟨D, _, rfl, SqL.of eD, ?_⟩
          have er : rowOk n (.tuple ds) = (ds.map (stepOk n)).all id := by
            show ((decide (ds.length = 2) || decide (ds.length = 3)) && ds.all (stepOk n)) = _
            rw [eb, List.all_map]
            rfl
          have k' := k H1 s1
          rw [er] at k'
          exact k'
/-! ### _check_table, of a good one -/
def spTabOk (K : PySem.W.Frag) : Sp := fun vs H Q _ => ∃ (v : V) (t : Tab) (m : Nat), vs = [v] ∧ Good t m ∧ Dp K H v (tabD t) ∧ ∀ H', Same H H' → Q .non H'
theorem ok_check_table {f : Addr} {fd : FuncData} (F : Fun K "_check_table" "_check_table" s__check_table f fd) (B : Blt mg) {tk : Tok} (g_MOST_STANDS : mg "MOST_STANDS" = some (.int 6 tk))
    (G__is_table_row : DefK P w K mg base CX0 3 "_is_table_row" P__is_table_row (spRowOk K)) : FnOk P w K mg base CX0 4 f fd P__check_table (spTabOk K) := by
  refine F.ok sc__check_table (fun vs H Q E h => ?_) (fun cdv A outer s H vs Q E hr h => ?_)
  · obtain ⟨v, t, m, rfl, _⟩ := h
    rfl
  · obtain ⟨v, t, m, rfl, g, dv, k⟩ := h
    refine ⟨_, (pss_cons (ps_if (PW.pt (pw_or (pt_not (pt_val (pe_callB (k_isi K) (by rfl) B.n_isinstance (by decide +kernel) (pa_cons (pv 0) (pa_cons (pe_bltn (v := .ty "tuple") (u := .type "tuple") (by rfl) B.n_tuple (by decide +kernel) rfl) pa_nil))))) (pw_or1 (pt_not (pt_chain op_le op_le pe_int (pe_callB (k_len K) (by rfl) B.n_len boot_len (pa_cons (pv 0) pa_nil)) (pe_gI (by rfl) g_MOST_STANDS)))))) (pss_one ps_never) pss_nil)
 (pss_one (ps_for PassesOwn.never rfl (EnT.pi_enumT (by rfl) B.n_enumerate (pa_cons (pv 0) pa_nil)) (k_tgs (n := 2) K rfl (pgs_cons (pg_name (i := 1) sc__check_table.nd rfl (Or.inl rfl)) (pgs_cons (pg_name (i := 2) sc__check_table.nd rfl (Or.inl rfl)) pgs_nil)))
 (pss_one (ps_if (PW.pt (pw_or (pt_not (pt_val (pe_def G__is_table_row (hr.mono (by omega)) (by rfl) (pa_cons (pv 2) (pa_cons (pe_callB (k_len K) (by rfl) B.n_len boot_len (pa_cons (pv 0) pa_nil)) pa_nil))))) (pw_or1 (pt_cmpR op_ne (pe_callB (k_len K) (by rfl) B.n_len boot_len (pa_cons (pv 2) pa_nil)) (pe_callB (k_len K) (by rfl) B.n_len boot_len (pa_cons (pe_ix (k_ixT K) (pv 0) pe_int (fun _ _ => rfl)) pa_nil)) (nomark _))))) (pss_one ps_never) pss_nil))))), ?_⟩
    have tv := dp_ty dv
    obtain ⟨a, xs, rfl, sx, al⟩ := dp_tup (show Dp K H v (.tuple (t.map rowD)) from dv)
    have lx : xs.length = t.length := by rw [dps_len al, List.length_map]
    have lo := g.lo
    have hi := g.hi
    have c1 : decide ((1 : Int) ≤ ((xs.length : Nat) : Int)) = true := decide_eq_true (by omega)
    have c2 : decide (((xs.length : Nat) : Int) ≤ 6) = true := decide_eq_true (by omega)
    refine ⟨_, rfl, _, _, _, _, true, rfl, .ty _, tv.ty, kit_any (show kitB "tuple" "tuple" = some true by decide +kernel), _, rfl, _, rfl, a, xs, rfl, .inr sx, _, _, rfl, rfl, _, rfl, ?_⟩
    rw [c1]
    refine ⟨_, _, rfl, rfl, _, rfl, ?_⟩
    rw [c2]
    refine ⟨_, rfl, a, xs, rfl, sx, EnT.for_enT (K := K) (a := a) (xs := xs) (fun i σ H' => Same H H' ∧ ∃ u1 u2, σ = [some (.ref a), u1, u2]) ⟨Same.refl H, none, none, rfl⟩ (fun i σ H' _ z => seqT z.1 sx) ?_ ?_⟩
    · rintro i x T σ H1 hx ⟨s1, u1, u2, rfl⟩ hT
      have s2 := s1.trans (same_new hT (HO.tup [V.int (i : Nat), x]))
      have eT : (upd H1 T (.tup [.int (i : Nat), x])) T = some (.tup [.int (i : Nat), x]) := upd_same
      revert s2 eT
      generalize upd H1 T (.tup [.int (i : Nat), x]) = H2
      intro s2 eT
      obtain ⟨d, hd, dx⟩ := dps_getV (dps_same s2 al) hx
      rw [List.getElem?_map] at hd
      obtain ⟨r, hr', rfl⟩ : ∃ r, t[i]? = some r ∧ d = rowD r := by
        cases z : t[i]? with
        | none => rw [z] at hd; cases hd
        | some r => rw [z] at hd; exact ⟨r, rfl, (Option.some.inj hd).symm⟩
      have rm := List.mem_of_getElem? hr'
      have ro := rowOk_good g rm
      obtain ⟨b, ys, rfl, sb, bl⟩ := dp_tup (show Dp K H2 x (.tuple (r.map stepD)) from dx)
      have lb : ys.length = m := by rw [dps_len bl, List.length_map]; exact g.rows r rm
      obtain ⟨r0, hr0⟩ : ∃ r0, t[0]? = some r0 := ⟨_, List.getElem?_eq_getElem (by omega)⟩
      have h0 : (t.map rowD)[0]? = some (rowD r0) := by rw [List.getElem?_map, hr0]; rfl
      obtain ⟨x0, hx0, dx0⟩ := dps_get (dps_same s2 al) h0
      obtain ⟨b0, ys0, rfl, sb0, bl0⟩ := dp_tup (show Dp K H2 x0 (.tuple (r0.map stepD)) from dx0)
      have lb0 : ys0.length = m := by rw [dps_len bl0, List.length_map]; exact g.rows r0 (List.mem_of_getElem? hr0)
      refine ⟨T, _, rfl, SqT.of eT, rfl, _, _, rfl, _, _, rfl, rfl, ?_⟩
      refine ⟨_, rfl, _, rfl, a, xs, rfl, .inr (seqT s2 sx), .ref b, rowD r, _, rfl, dx, fun H3 s3 => ⟨_, rfl, ?_⟩⟩
      rw [lx, ro]
      refine ⟨_, rfl, b, ys, rfl, .inr (seqT s3 sb), _, rfl, a, xs, _, _, rfl, rfl, seqT (s2.trans s3) sx, atI_nat hx0, b0, ys0, rfl, .inr (seqT s3 sb0), rfl, _, rfl, ?_⟩
      rw [decide_eq_true (by rw [lb, lb0])]
      exact ⟨s2.trans s3, _, _, rfl⟩
    · rintro σ H1 ⟨s1, u1, u2, rfl⟩
      exact k H1 s1
/-! ### Machine -/
section
variable {C : Addr}
def spMInit (K : PySem.W.Frag) (C : Addr) : Sp := fun vs H Q _ => ∃ (p dx : Addr) (v : V) (t : Tab) (m : Nat), vs = [.ref p, v] ∧ H p = some (.ins C dx []) ∧ Good t m ∧ Dp K H v (tabD t) ∧
  ∀ H', Mach K C H' p t → (∀ b o, b ≠ p → H b = some o → H' b = some o) → Q .non H'
theorem ok_Machine_init {f : Addr} {fd : FuncData} (F : Fun K "__init__" "Machine.__init__" s_Machine_init f fd) (T : Txt K C)
    (G__check_table : DefK P w K mg base CX0 4 "_check_table" P__check_table (spTabOk K)) : FnOk P w K mg base CX0 5 f fd P_Machine_init (spMInit K C) := by
  refine F.ok sc_Machine_init (fun vs H Q E h => ?_) (fun cdv A outer s H vs Q E hr h => ?_)
  · obtain ⟨p, dx, v, t, m, rfl, _⟩ := h
    rfl
  · obtain ⟨p, dx, v, t, m, rfl, hp, g, dv, k⟩ := h
    refine ⟨_, (pss_cons (ps_expr (pe_def G__check_table (hr.mono (by omega)) (by rfl) (pa_cons (pv 1) pa_nil)))
 (pss_one (ps_fld (pv 0) (pv 1) rfl))), ?_⟩
    refine ⟨_, rfl, v, t, m, rfl, g, dv, fun H1 s1 => ⟨_, rfl, _, rfl, p, C, dx, [], rfl, s1 _ _ hp, T.cl, T.nT, (by show 0 < 1000; decide), ?_⟩⟩
    have e1 := s1 _ _ hp
    refine k _ ⟨dx, v, upd_same, ?_⟩ (fun b o n e => by rw [upd_ne n]; exact s1 _ _ e)
    refine dp_monoT (fun a xs z => ?_) (dp_same s1 dv) (noL_tab t)
    rcases z with (z | ⟨u, z⟩) | z
    · exact .inl (.inl (by rw [upd_ne (ne_of z e1 (by intro q; cases q))]; exact z))
    · exact .inl (.inr ⟨u, by rw [upd_ne (ne_of z e1 (by intro q; cases q))]; exact z⟩)
    · exact .inr z
def spMGet (K : PySem.W.Frag) (C : Addr) : Sp := fun vs H Q _ => ∃ (p dx : Addr) (v : V), vs = [.ref p] ∧ H p = some (.ins C dx [("_table", v)]) ∧ Q v H
theorem ok_Machine_table {f : Addr} {fd : FuncData} (F : Fun K "table" "Machine.table" s_Machine_table f fd) (T : Txt K C) : FnOk P w K mg base CX0 1 f fd P_Machine_table (spMGet K C) := by
  refine F.ok sc_Machine_table (fun vs H Q E h => ?_) (fun cdv A outer s H vs Q E hr h => ?_)
  · obtain ⟨p, dx, v, rfl, _⟩ := h
    rfl
  · obtain ⟨p, dx, v, rfl, hp, k⟩ := h
    refine ⟨_, (pss_one (ps_ret (pe_fld (pv 0) rfl))), ?_⟩
    exact ⟨_, rfl, p, C, dx, _, v, rfl, hp, T.cl, T.nT, rfl, k⟩
def spMLen (K : PySem.W.Frag) (C : Addr) : Sp := fun vs H Q _ => ∃ (p : Addr) (t : Tab), vs = [.ref p] ∧ Mach K C H p t ∧ Q (.int (t.length : Nat)) H
theorem ok_Machine_len {f : Addr} {fd : FuncData} (F : Fun K "__len__" "Machine.__len__" s_Machine_len f fd) (T : Txt K C) (B : Blt mg) : FnOk P w K mg base CX0 1 f fd P_Machine_len (spMLen K C) := by
  refine F.ok sc_Machine_len (fun vs H Q E h => ?_) (fun cdv A outer s H vs Q E hr h => ?_)
  · obtain ⟨p, t, rfl, _⟩ := h
    rfl
  · obtain ⟨p, t, rfl, ⟨dx, v, hp, dv⟩, k⟩ := h
    obtain ⟨a, xs, rfl, sx, lx⟩ := tab_len dv
    refine ⟨_, (pss_one (ps_ret (pe_callB (k_len K) (by rfl) B.n_len boot_len (pa_cons (pe_fld (pv 0) rfl) pa_nil)))), ?_⟩
    rw [← lx] at k
    exact ⟨_, rfl, p, C, dx, _, .ref a, rfl, hp, T.cl, T.nT, rfl, a, xs, rfl, .inr sx, k⟩
def spMLet (K : PySem.W.Frag) (C : Addr) : Sp := fun vs H Q _ => ∃ (p : Addr) (t : Tab) (m : Nat), vs = [.ref p] ∧ Mach K C H p t ∧ Good t m ∧ Q (.int (m : Nat)) H
theorem ok_Machine_letters {f : Addr} {fd : FuncData} (F : Fun K "letters" "Machine.letters" s_Machine_letters f fd) (T : Txt K C) (B : Blt mg) : FnOk P w K mg base CX0 1 f fd P_Machine_letters (spMLet K C) := by
  refine F.ok sc_Machine_letters (fun vs H Q E h => ?_) (fun cdv A outer s H vs Q E hr h => ?_)
  · obtain ⟨p, t, m, rfl, _⟩ := h
    rfl
  · obtain ⟨p, t, m, rfl, ⟨dx, v, hp, dv⟩, g, k⟩ := h
    obtain ⟨a, xs, b, ys, z, rfl, h1, lx, e1, h2, ly, _⟩ := tab_at (n := 0) (c := 0) g dv g.lo (by rcases g.lets with e | e <;> omega)
    refine ⟨_, (pss_one (ps_ret (pe_callB (k_len K) (by rfl) B.n_len boot_len (pa_cons (pe_ix (k_ixT K) (pe_fld (pv 0) rfl) pe_int (fun _ _ => rfl)) pa_nil)))), ?_⟩
    rw [← ly] at k
    exact ⟨_, rfl, p, C, dx, _, .ref a, rfl, hp, T.cl, T.nT, rfl, a, xs, _, _, rfl, rfl, h1, e1, b, ys, rfl, .inr h2, k⟩
/-- a new instance beside all that stood -/
theorem mk_same {H : Hp} (C : Addr) {x dx : Addr} (nx : H x = none) (nd : H dx = none) (ne : dx ≠ x) : Same H (upd (upd H dx (.own x)) x (.ins C dx [])) := (same_new nd _).trans (same_new (by rw [upd_ne ne.symm]; exact nx) _)
end
/-! ### check_stand -/
section
variable {C : Addr}
def spStandOk (K : PySem.W.Frag) (C : Addr) : Sp := fun vs H Q _ => ∃ (p : Addr) (t : Tab) (n : Nat), vs = [.ref p, .int (n : Nat)] ∧ Mach K C H p t ∧ t.length ≤ 6 ∧ n < t.length ∧ Q .non H
theorem ok_check_stand {f : Addr} {fd : FuncData} (F : Fun K "check_stand" "check_stand" s_check_stand f fd) (B : Blt mg) (G_is_below : DefK P w K mg base CX0 1 "is_below" P_is_below (spBelow K)) (l_Machine : LenK P w K mg base 1 C (spMLen K C)) :
    FnOk P w K mg base CX0 3 f fd P_check_stand (spStandOk K C) := by
  refine F.ok sc_check_stand (fun vs H Q E h => ?_) (fun cdv A outer s H vs Q E hr h => ?_)
  · obtain ⟨p, t, n, rfl, _⟩ := h
    rfl
  · obtain ⟨p, t, n, rfl, mm, t6, hn, k⟩ := h
    obtain ⟨dx, v, hp, dv⟩ := id mm
    refine ⟨_, (pss_one (ps_if (pt_not (pt_val (pe_def G_is_below (hr.mono (by omega)) (by rfl) (pa_cons (pv 1) (pa_cons (pe_lenO l_Machine (hr.mono (by omega)) (by rfl) B.n_len (pv 0)) pa_nil))))) (pss_one ps_never) pss_nil)), ?_⟩
    refine ⟨_, rfl, _, rfl, p, dx, _, rfl, hp, p, t, rfl, mm, t.length, rfl, by omega, .int n, "int", _, rfl, .int _, _, rfl, ?_⟩
    have e : below (.int (n : Nat)) ((t.length : Nat) : Int) = true := by
      show (decide ((0 : Int) ≤ (n : Int)) && decide ((n : Int) < ((t.length : Nat) : Int))) = true
      rw [decide_eq_true (by omega), decide_eq_true (by omega)]
      rfl
    rw [e]
    exact k
end
/-! ### check_row -/
section
variable {C : Addr}
def spRowGood (K : PySem.W.Frag) (C : Addr) : Sp := fun vs H Q _ => ∃ (p : Addr) (v : V) (t : Tab) (m : Nat) (r : List Nat), vs = [.ref p, v] ∧ Mach K C H p t ∧ Good t m ∧ Dp K H v (lettersD r) ∧ r.length ≤ 40 ∧ (∀ c ∈ r, c < m) ∧ ∀ H', Same H H' → Q .non H'
theorem ok_check_row {f : Addr} {fd : FuncData} (F : Fun K "check_row" "check_row" s_check_row f fd) (B : Blt mg) {tk : Tok} (g_LONGEST_ROW : mg "LONGEST_ROW" = some (.int 40 tk)) (G_is_below : DefK P w K mg base CX0 1 "is_below" P_is_below (spBelow K))
    (p_letters : PropK P w K mg base 1 C "letters" (spMLet K C)) : FnOk P w K mg base CX0 3 f fd P_check_row (spRowGood K C) := by
  refine F.ok sc_check_row (fun vs H Q E h => ?_) (fun cdv A outer s H vs Q E hr h => ?_)
  · obtain ⟨p, v, t, m, r, rfl, _⟩ := h
    rfl
  · obtain ⟨p, v, t, m, r, rfl, mm, g, dv, r40, hc, k⟩ := h
    refine ⟨_, (pss_cons (ps_if (PW.pt (pw_or (pt_not (pt_val (pe_callB (k_isi K) (by rfl) B.n_isinstance (by decide +kernel) (pa_cons (pv 1) (pa_cons (pe_bltn (v := .ty "tuple") (u := .type "tuple") (by rfl) B.n_tuple (by decide +kernel) rfl) pa_nil))))) (pw_or1 (pt_cmpR op_gt (pe_callB (k_len K) (by rfl) B.n_len boot_len (pa_cons (pv 1) pa_nil)) (pe_gI (by rfl) g_LONGEST_ROW) (nomark _))))) (pss_one ps_never) pss_nil)
 (pss_one (ps_for PassesOwn.never rfl (EnT.pi_enumT (by rfl) B.n_enumerate (pa_cons (pv 1) pa_nil)) (k_tgs (n := 2) K rfl (pgs_cons (pg_name (i := 2) sc_check_row.nd rfl (Or.inl rfl)) (pgs_cons (pg_name (i := 3) sc_check_row.nd rfl (Or.inl rfl)) pgs_nil)))
 (pss_one (ps_if (pt_not (pt_val (pe_def G_is_below (hr.mono (by omega)) (by rfl) (pa_cons (pv 3) (pa_cons (pe_propM p_letters (hr.mono (by omega)) (pv 0)) pa_nil))))) (pss_one ps_never) pss_nil))))), ?_⟩
    have tv := dp_ty dv
    obtain ⟨ra, rxs, rfl, sr, ar⟩ := dp_tup (show Dp K H v (.tuple (r.map fun (c : Nat) => PyData.int (c : Int))) from dv)
    have er : rxs = (r.map fun (c : Nat) => (c : Int)).map V.int := dps_intsV (by rw [List.map_map]; exact ar)
    subst er
    have lr : ((r.map fun (c : Nat) => (c : Int)).map V.int).length = r.length := by rw [List.length_map, List.length_map]
    refine ⟨_, rfl, _, _, _, _, true, rfl, .ty _, tv.ty, kit_any (show kitB "tuple" "tuple" = some true by decide +kernel), _, rfl, _, rfl, ra, _, rfl, .inr sr, _, _, rfl, rfl, _, rfl, ?_⟩
    rw [decide_eq_false (by rw [lr]; omega)]
    refine ⟨_, rfl, ra, _, rfl, sr, EnT.for_enT (K := K) (a := ra) (xs := (r.map fun (c : Nat) => (c : Int)).map V.int) (fun i σ H' => Same H H' ∧ ∃ u1 u2, σ = [some (.ref p), some (.ref ra), u1, u2]) ⟨Same.refl H, none, none, rfl⟩ (fun i σ H' _ z => seqT z.1 sr) ?_ ?_⟩
    · rintro i x T σ H1 hx ⟨s1, u1, u2, rfl⟩ hT
      have s2 := s1.trans (same_new hT (HO.tup [V.int (i : Nat), x]))
      have eT : (upd H1 T (.tup [.int (i : Nat), x])) T = some (.tup [.int (i : Nat), x]) := upd_same
      revert s2 eT
      generalize upd H1 T (.tup [.int (i : Nat), x]) = H2
      intro s2 eT
      rw [List.getElem?_map, List.getElem?_map] at hx
      obtain ⟨c, hci, rfl⟩ : ∃ c : Nat, r[i]? = some c ∧ x = .int (c : Nat) := by
        cases z : r[i]? with
        | none => rw [z] at hx; cases hx
        | some c => rw [z] at hx; exact ⟨c, rfl, (Option.some.inj hx).symm⟩
      have hcm := hc c (List.mem_of_getElem? hci)
      obtain ⟨dx, tv, hp, _⟩ := mm.same s2
      refine ⟨T, _, rfl, SqT.of eT, rfl, _, _, rfl, _, _, rfl, rfl, ?_⟩
      refine ⟨_, rfl, _, rfl, p, dx, _, rfl, hp, p, t, m, rfl, mm.same s2, g, .int c, "int", _, rfl, .int _, _, rfl, ?_⟩
      have e : below (.int (c : Nat)) ((m : Nat) : Int) = true := by
        show (decide ((0 : Int) ≤ (c : Int)) && decide ((c : Int) < ((m : Nat) : Int))) = true
        rw [decide_eq_true (by omega), decide_eq_true (by omega)]
        rfl
      rw [e]
      exact ⟨s2, _, _, rfl⟩
    · rintro σ H1 ⟨s1, u1, u2, rfl⟩
      exact k H1 s1
end
/-! ### walk -/
section
variable {C : Addr}
/-- walk of a good machine, stand and row -/
def spWalk (K : PySem.W.Frag) (C : Addr) : Sp := fun vs H Q _ => ∃ (p : Addr) (v : V) (t : Tab) (m n : Nat) (r : List Nat), vs = [.ref p, .int (n : Nat), v] ∧ Mach K C H p t ∧ Good t m ∧ n < t.length ∧ Dp K H v (lettersD r) ∧ r.length ≤ 40 ∧ (∀ c ∈ r, c < m) ∧
  ∀ (u : V) (H' : Hp), Same H H' → Dp K H' u (walkD (walkF t n r)) → Q u H'
theorem ok_walk {f : Addr} {fd : FuncData} (F : Fun K "walk" "walk" s_walk f fd) (B : Blt mg) (G_check_stand : DefK P w K mg base CX0 3 "check_stand" P_check_stand (spStandOk K C)) (G_check_row : DefK P w K mg base CX0 3 "check_row" P_check_row (spRowGood K C))
    (p_table : PropK P w K mg base 1 C "table" (spMGet K C)) : FnOk P w K mg base CX0 4 f fd P_walk (spWalk K C) := by
  refine F.ok sc_walk (fun vs H Q E h => ?_) (fun cdv A outer s H vs Q E hr h => ?_)
  · obtain ⟨p, v, t, m, n, r, rfl, _⟩ := h
    rfl
  · obtain ⟨p, v, t, m, n, r, rfl, mm, g, hn, dv, r40, hc, k⟩ := h
    refine ⟨_, (pss_cons (ps_expr (pe_def G_check_stand (hr.mono (by omega)) (by rfl) (pa_cons (pv 0) (pa_cons (pv 1) pa_nil))))
 (pss_cons (ps_expr (pe_def G_check_row (hr.mono (by omega)) (by rfl) (pa_cons (pv 0) (pa_cons (pv 2) pa_nil))))
 (pss_cons (ps_set (i := 3) sc_walk.nd rfl (Or.inl rfl) (pv 1))
 (pss_cons (ps_set (i := 4) sc_walk.nd rfl (Or.inl rfl) (pe_lst pa_nil))
 (pss_cons (ps_for PassesOwn.never rfl (k_pit K (pv 2)) (pg_name (i := 5) sc_walk.nd rfl (Or.inl rfl))
 (pss_cons (ps_set (i := 6) sc_walk.nd rfl (Or.inl rfl) (pe_ix (k_ixT K) (pe_ix (k_ixT K) (pe_propM p_table (hr.mono (by omega)) (pv 0)) (pv 3) (fun _ _ => rfl)) (pv 5) (fun _ _ => rfl)))
 (pss_cons (ps_if (pt_cmpR op_isN (pv 6) pe_non (nomark _)) (pss_one (ps_ret pe_non)) pss_nil)
 (pss_cons (ps_set (i := 3) sc_walk.nd rfl (Or.inl rfl) (pe_ix (k_ixT K) (pv 6) pe_int (fun _ _ => rfl)))
 (pss_one (ps_expr (pe_bm PySem.F.plainAttrs_list PySem.F.slot_list_append PySem.F.type_list_append mt_append (pv 4) (pa_cons (pe_ix (k_ixT K) (pv 6) pe_int (fun _ _ => rfl)) pa_nil))))))))
 (pss_one (ps_ret (pe_tup (pa_cons (pv 3) (pa_cons (pe_callTy (k_tupOf K) (by rfl) B.n_tuple (by decide +kernel) (pa_cons (pv 4) pa_nil)) pa_nil)))))))))), ?_⟩
    refine ⟨_, rfl, _, rfl, p, t, n, rfl, mm, g.hi, hn, ?_⟩
    refine ⟨_, rfl, _, rfl, p, v, t, m, r, rfl, mm, g, dv, r40, hc, fun H1 s1 => ?_⟩
    obtain ⟨ra, rxs, rfl, sr, ar⟩ := dp_tup (show Dp K H v (.tuple (r.map fun (c : Nat) => PyData.int (c : Int))) from dv)
    have er : rxs = (r.map fun (c : Nat) => (c : Int)).map V.int := dps_intsV (by rw [List.map_map]; exact ar)
    subst er
    have lr : ((r.map fun (c : Nat) => (c : Int)).map V.int).length = r.length := by rw [List.length_map, List.length_map]
    refine ⟨_, rfl, by show 0 ≤ sizeLine; decide, fun L hL => ?_⟩
    have s2 := s1.trans (same_new hL (HO.lst []))
    refine ⟨_, rfl, ra, rfl, ⟨_, seqT s2 sr⟩, for_tup (K := K) (a := ra) (xs := (r.map fun (c : Nat) => (c : Int)).map V.int) (fun i σ H' => ∃ (q : Nat) (ws : List Nat) (u5 u6 : Option V), Same H H' ∧ walkF t n (r.take i) = some (q, ws) ∧ q < t.length ∧
      σ = [some (.ref p), some (.int (n : Nat)), some (.ref ra), some (.int (q : Nat)), some (.ref L), u5, u6] ∧ H' L = some (.lst ((ws.map fun (c : Nat) => (c : Int)).map V.int)) ∧ ws.length = i)
      ⟨n, [], none, none, s2, rfl, hn, rfl, upd_same, rfl⟩ (fun i σ H' _ ⟨_, _, _, _, e, _⟩ => seqT e sr) ?_ ?_⟩
    · rintro i x σ H' hi ⟨q, ws, u5, u6, e, hw, hq, rfl, hs, lw⟩
      rw [List.getElem?_map, List.getElem?_map] at hi
      obtain ⟨c, hci, rfl⟩ : ∃ c : Nat, r[i]? = some c ∧ x = .int (c : Nat) := by
        cases z : r[i]? with
        | none => rw [z] at hi; cases hi
        | some c => rw [z] at hi; exact ⟨c, rfl, (Option.some.inj hi).symm⟩
      have hcm := hc c (List.mem_of_getElem? hci)
      have il : i < r.length := (List.getElem?_eq_some_iff.mp hci).1
      obtain ⟨dx, tv, hp, dt⟩ := mm.same e
      obtain ⟨a, xs, b, ys, z, rfl, h1, _, e1, h2, _, e2, dz⟩ := tab_at g dt hq hcm
      have more : walkF t n (r.take (i + 1)) = (stepAt t q c).map fun y => (y.1, ws ++ [y.2]) := by
        rw [take_more hci, walk_some t _ _ _ _ _ hw, walk_one]
        cases stepAt t q c with
        | none => rfl
        | some y => rfl
      refine ⟨_, rfl, p, dx, _, rfl, hp, p, dx, _, rfl, hp, _, rfl, a, xs, _, _, rfl, rfl, h1, e1, _, rfl, b, ys, _, z, rfl, rfl, h2, e2, _, rfl, rfl, _, rfl, ?_⟩
      cases es : stepAt t q c with
      | none =>
        rw [es] at dz more
        rw [dp_non dz]
        refine iteT ?_
        have full : walkF t n r = none := by
          have z := walk_none t _ (r.drop (i + 1)) n more
          rw [List.take_append_drop] at z
          exact z
        exact k .non H' e (by rw [full]; exact .non)
      | some y =>
        obtain ⟨q', o⟩ := y
        rw [es] at dz more
        obtain ⟨ya, yxs, rfl, y1, y2, y3, _⟩ := step_at dz
        refine iteF ?_
        have gd := stepAt_good g es
        refine ⟨_, rfl, ya, yxs, _, _, rfl, rfl, y1, y2, _, rfl, .inl ⟨rfl, _, SqL.of hs⟩, _, rfl, ya, yxs, _, _, rfl, rfl, y1, y3, L, _, _, rfl, rfl, hs, ?_, q', ws ++ [o], _, _, ?_, more, gd.1, rfl, ?_, by rw [List.length_append, lw]; rfl⟩
        · rw [List.length_map, List.length_map]
          exact small1000 (by omega)
        · intro b o e'
          have nb : b ≠ L := ne_of_none (s1 _ _ e') hL
          rw [upd_ne nb]
          exact e _ _ e'
        · rw [upd_same, List.map_append, List.map_append]
          rfl
    · rintro σ H' ⟨q, ws, u5, u6, e, hw, hq, rfl, hs, lw⟩
      refine ⟨_, rfl, _, rfl, L, _, rfl, .inl ⟨SqL.of hs, fun T hT => ⟨by show 2 ≤ sizeLine; decide, fun T2 hT2 => ?_⟩⟩⟩
      have s3 := same_new hT (HO.tup ((ws.map fun (c : Nat) => (c : Int)).map V.int))
      have s4 := same_new hT2 (HO.tup [V.int (q : Nat), V.ref T])
      rw [lr, List.take_length] at hw
      refine k _ _ (e.trans (s3.trans s4)) ?_
      rw [hw]
      refine .tup (SqT.of upd_same) (.cons (.int _) (.cons (.tup (seqT s4 (SqT.of upd_same)) ?_) .nil))
      have z := dps_ints (K := K) (H := upd (upd H' T (.tup ((ws.map fun (c : Nat) => (c : Int)).map V.int))) T2 (.tup [.int (q : Nat), .ref T])) (ws.map fun (c : Nat) => (c : Int))
      rw [List.map_map (g := PyData.int)] at z
      exact z
end
/-! ### is_ascending -/
def ascD (ds : List PyData) : Bool := (List.zipWith PySem.W.dataLt ds (ds.drop 1)).all id
def spAsc (K : PySem.W.Frag) : Sp := fun vs H Q _ => ∃ (v : V) (ds : List PyData), vs = [v] ∧ Dp K H v (.tuple ds) ∧ PySem.W.AllAlike ds ∧ (∀ d ∈ ds, d ≠ .none ∧ d.depth ≤ 60) ∧ noLs ds = true ∧ ds.length ≤ 100000 ∧ ∀ H', Same H H' → Q (.bl (ascD ds)) H'
theorem ok_is_ascending {f : Addr} {fd : FuncData} (F : Fun K "is_ascending" "is_ascending" s_is_ascending f fd) (B : Blt mg) : FnOk P w K mg base CX0 1 f fd P_is_ascending (spAsc K) := by
  refine F.ok sc_is_ascending (fun vs H Q E h => ?_) (fun cdv A outer s H vs Q E hr h => ?_)
  · obtain ⟨v, ds, rfl, _⟩ := h
    rfl
  · obtain ⟨v, ds, rfl, dv, al, dn, nl, hl, k⟩ := h
    refine ⟨_, (pss_one (ps_ret (pe_callB (k_all K rfl) (by rfl) B.n_all (by decide +kernel) (pa_cons (pe_lc (own := ([("one", 1), ("other", 2)] : List (Str × Nat))) (tt := tYes) rfl sc_is_ascending.nd (k_pizA K (by rfl) B.n_zip (pa_cons (pv 0) (pa_cons (pe_slice (k_slT K) (pv 0) (po_some pe_int) po_none) pa_nil))) (blkOk_by (own := ([("one", 1), ("other", 2)] : List (Str × Nat))) (N := N_is_ascending) (sc := defScope s_is_ascending) (by decide +kernel)) (fun _ _ _ _ _ => by exact (k_tgs (n := 2) K rfl (pgs_cons (pg_name (i := 1) sc_is_ascending.nd rfl (Or.inl rfl)) (pgs_cons (pg_name (i := 2) sc_is_ascending.nd rfl (Or.inl rfl)) pgs_nil)))) (fun _ _ _ _ _ => by exact pts_nil) (fun _ _ _ _ _ => by exact (pe_cmpR (k_ltD K hr.units) (pv 1) (pv 2) (nomark _)))) pa_nil)))), ?_⟩
    obtain ⟨a, xs, rfl, sx, ax⟩ := dp_tup dv
    have lx := dps_len ax
    refine ⟨_, rfl, _, rfl, _, rfl, ?_⟩
    dsimp only [tNoPart]
    refine slA2 sx fun r H1 s1 sr => ?_
    rw [show (1 : Int) = ((1 : Nat) : Int) from rfl, cutV_drop] at sr
    refine ⟨a, r, xs, xs.drop 1, rfl, .inr ⟨seqT s1 sx, sr, fun D hD => ?_⟩⟩
    have sz : min xs.length (xs.drop 1).length = (List.zipWith PySem.W.dataLt ds (ds.drop 1)).length := by
      rw [List.length_zipWith, List.length_drop, List.length_drop, lx]
    have hz : (List.zipWith PySem.W.dataLt ds (ds.drop 1)).length ≤ ds.length := by
      rw [List.length_zipWith]
      exact Nat.min_le_left _ _
    refine lc_zipT (fun i H' => Same H1 H' ∧ H' D = some (.lst (((List.zipWith PySem.W.dataLt ds (ds.drop 1)).take i).map V.bl))) ⟨same_new hD _, upd_same⟩ (fun i H' _ z => ⟨seqT z.1 (seqT s1 sx), seqT z.1 sr⟩) ?_ ?_
    · rintro i x y T H2 ex ey ⟨s2, eD⟩ hT
      obtain ⟨d, ed, dx⟩ := dps_getV (dps_same (s1.trans s2) ax) ex
      obtain ⟨e, ee, dy⟩ := dps_getV (dps_same (s1.trans s2) (dps_drop 1 ax)) ey
      have sT := same_new hT (HO.tup [x, y])
      have md := List.mem_of_getElem? ed
      have me := List.mem_of_mem_drop (List.mem_of_getElem? ee)
      refine ⟨T, _, rfl, SqT.of upd_same, rfl, _, _, rfl, _, _, rfl, rfl, rfl, ?_⟩
      refine ⟨_, rfl, _, rfl, d, e, dp_same sT dx, dp_same sT dy, al d md e me, (dn d md).1, (dn d md).2, ?_⟩
      have il : i < (List.zipWith PySem.W.dataLt ds (ds.drop 1)).length := by
        rw [← sz]
        have h1 := (List.getElem?_eq_some_iff.mp ex).1
        have h2 := (List.getElem?_eq_some_iff.mp ey).1
        omega
      have eD2 := sT _ _ eD
      refine ⟨_, eD2, small_of (by rw [List.length_map, List.length_take]; omega : _ ≤ 1000000), ?_, ?_⟩
      · intro b o q
        rw [upd_ne (ne_of_none q hD)]
        exact sT _ _ (s2 _ _ q)
      · rw [upd_same, take_more (show (List.zipWith PySem.W.dataLt ds (ds.drop 1))[i]? = some (PySem.W.dataLt d e) by rw [List.getElem?_zipWith, ed, ee]), List.map_append]
        rfl
    · rintro H2 ⟨s2, eD⟩
      rw [sz, List.take_length] at eD
      exact ⟨D, _, rfl, SqL.of eD, k H2 (s1.trans s2)⟩
/-! ### is_block, of any data -/
section
variable {C : Addr}
def blockOk (n : Int) : PyData → Bool
  | .tuple ds => !ds.isEmpty && (ds.all (belowD n) && ascD ds)
  | _ => false
theorem kit_tup {H : Hp} {v : V} {d : PyData} (h : Dp K H v d) : kitB (tyD d) "tuple" = some false ∧ (∀ ds, d ≠ .tuple ds) ∨ ∃ ds, d = .tuple ds := by
  cases h with
  | non => exact .inl ⟨(show kitB "NoneType" "tuple" = some false by decide +kernel), fun _ z => nomatch z⟩
  | bl b => exact .inl ⟨(show kitB "bool" "tuple" = some false by decide +kernel), fun _ z => nomatch z⟩
  | int b => exact .inl ⟨(show kitB "int" "tuple" = some false by decide +kernel), fun _ z => nomatch z⟩
  | str b => exact .inl ⟨(show kitB "str" "tuple" = some false by decide +kernel), fun _ z => nomatch z⟩
  | lst _ _ => exact .inl ⟨(show kitB "list" "tuple" = some false by decide +kernel), fun _ z => nomatch z⟩
  | tup _ _ => exact .inr ⟨_, rfl⟩
theorem below_int {n : Int} {d : PyData} (h : belowD n d = true) : ∃ i, d = .int i ∧ 0 ≤ i ∧ i < n := by
  cases d <;> simp [belowD] at h
  exact ⟨_, rfl, h.1, h.2⟩
theorem belows {n : Int} {ds : List PyData} (h : ds.all (belowD n) = true) : PySem.W.AllAlike ds ∧ (∀ d ∈ ds, d ≠ .none ∧ d.depth ≤ 60) ∧ noLs ds = true := by
  rw [List.all_eq_true] at h
  refine ⟨fun d hd e he => ?_, fun d hd => ?_, noLs_of fun d hd => ?_⟩
  · obtain ⟨i, rfl, _⟩ := below_int (h d hd)
    obtain ⟨j, rfl, _⟩ := below_int (h e he)
    simp [PySem.W.alike]
  · obtain ⟨i, rfl, _⟩ := below_int (h d hd)
    exact ⟨(fun z => nomatch z), by simp [PyData.depth]⟩
  · obtain ⟨i, rfl, _⟩ := below_int (h d hd)
    rfl
def spBlock (K : PySem.W.Frag) (C : Addr) : Sp := fun vs H Q _ => ∃ (p : Addr) (v : V) (t : Tab) (d : PyData), vs = [.ref p, v] ∧ Mach K C H p t ∧ t.length ≤ 6 ∧ Dp K H v d ∧ (∀ ds, d = .tuple ds → ds.length ≤ 100000) ∧ ∀ H', Same H H' → Q (.bl (blockOk (t.length : Nat) d)) H'
theorem ok_is_block {f : Addr} {fd : FuncData} (F : Fun K "is_block" "is_block" s_is_block f fd) (B : Blt mg) (G_is_below : DefK P w K mg base CX0 1 "is_below" P_is_below (spBelow K)) (G_is_ascending : DefK P w K mg base CX0 1 "is_ascending" P_is_ascending (spAsc K))
    (l_Machine : LenK P w K mg base 1 C (spMLen K C)) : FnOk P w K mg base CX0 3 f fd P_is_block (spBlock K C) := by
  refine F.ok sc_is_block (fun vs H Q E h => ?_) (fun cdv A outer s H vs Q E hr h => ?_)
  · obtain ⟨p, v, t, d, rfl, _⟩ := h
    rfl
  · obtain ⟨p, v, t, d, rfl, mm, t6, dv, hl, k⟩ := h
    refine ⟨_, (pss_cons (ps_if (PW.pt (pw_or (pt_not (pt_val (pe_callB (k_isi K) (by rfl) B.n_isinstance (by decide +kernel) (pa_cons (pv 1) (pa_cons (pe_bltn (v := .ty "tuple") (u := .type "tuple") (by rfl) B.n_tuple (by decide +kernel) rfl) pa_nil))))) (pw_or1 (pt_cmpR op_eq (pe_callB (k_len K) (by rfl) B.n_len boot_len (pa_cons (pv 1) pa_nil)) pe_int (nomark _))))) (pss_one (ps_ret pe_bl)) pss_nil)
 (pss_one (ps_ret (pe_and (pe_callB (k_all K rfl) (by rfl) B.n_all (by decide +kernel) (pa_cons (pe_lc (own := ([("stand", 2)] : List (Str × Nat))) (g := gName 2) (tt := tYes) rfl sc_is_block.nd (k_pit K (pv 1)) (blkOk_by (own := ([("stand", 2)] : List (Str × Nat))) (N := N_is_block) (sc := defScope s_is_block) (by decide +kernel)) (fun _ _ _ _ _ => by exact (pg_name (i := 2) sc_is_block.nd rfl (Or.inl rfl))) (fun _ _ _ _ _ => by exact pts_nil) (fun _ _ _ _ _ => by exact (pe_def G_is_below (hr.mono (by omega)) (by rfl) (pa_cons (pv 2) (pa_cons (pe_lenO l_Machine (hr.mono (by omega)) (by rfl) B.n_len (pv 0)) pa_nil))))) pa_nil)) (pe_one (pe_def G_is_ascending (hr.mono (by omega)) (by rfl) (pa_cons (pv 1) pa_nil))))))), ?_⟩
    have tv := dp_ty dv
    rcases kit_tup dv with ⟨e1, nt⟩ | ⟨ds, rfl⟩
    · refine ⟨_, rfl, _, _, _, _, false, rfl, .ty _, tv.ty, kit_any e1, _, rfl, ?_⟩
      have z : blockOk (t.length : Nat) d = false := by
        cases d <;> first | rfl | exact absurd rfl (nt _)
      have q := k H (Same.refl H)
      rw [z] at q
      exact q
    · obtain ⟨a, xs, rfl, sx, ax⟩ := dp_tup dv
      have lx := dps_len ax
      have l5 := hl ds rfl
      refine ⟨_, rfl, _, _, _, _, true, rfl, .ty _, tv.ty, kit_any (show kitB "tuple" "tuple" = some true by decide +kernel), _, rfl, _, rfl, a, xs, rfl, .inr sx, rfl, _, rfl, ?_⟩
      by_cases e0 : ds = []
      · subst e0
        rw [decide_eq_true (by rw [lx]; rfl)]
        exact k H (Same.refl H)
      · have n0 : ds.length ≠ 0 := fun z => e0 (List.length_eq_zero_iff.mp z)
        rw [decide_eq_false (by
          intro z
          injection z with z
          omega)]
        have ie : ds.isEmpty = false := by
          cases ds with
          | nil => exact absurd rfl e0
          | cons x y => rfl
        refine ⟨_, rfl, a, rfl, ⟨_, sx⟩, fun D hD => lc_tup (K := K) (a := a) (xs := xs) (fun i H' => Same H H' ∧ H' D = some (.lst (((ds.map (belowD (t.length : Nat))).take i).map V.bl))) ⟨same_new hD _, upd_same⟩ (fun i H' _ z => seqT z.1 sx) ?_ ?_⟩
        · rintro i x H2 ex ⟨s2, eD⟩
          obtain ⟨d, ed, dx⟩ := dps_getV (dps_same s2 ax) ex
          obtain ⟨dx0, tv0, hp, _⟩ := mm.same s2
          refine ⟨rfl, ?_⟩
          refine ⟨_, rfl, _, rfl, p, dx0, _, rfl, hp, p, t, rfl, mm.same s2, t.length, rfl, by omega, x, tyD d, _, rfl, dp_ty dx, _, eD, small_of (by rw [List.length_map, List.length_take, List.length_map]; omega), ?_, ?_⟩
          · intro b o q
            rw [upd_ne (ne_of_none q hD)]
            exact s2 _ _ q
          · rw [upd_same, below_d dx, take_more (show (ds.map (belowD (t.length : Nat)))[i]? = some (belowD (t.length : Nat) d) by rw [List.getElem?_map, ed]; rfl), List.map_append]
            rfl
        · rintro H2 ⟨s2, eD⟩
          rw [lx, List.take_of_length_le (by rw [List.length_map]; exact Nat.le_refl _)] at eD
          refine ⟨D, _, rfl, SqL.of eD, ?_⟩
          have ea : (ds.map (belowD (t.length : Nat))).all id = ds.all (belowD (t.length : Nat)) := by rw [List.all_map]; rfl
          rw [ea]
          have eb : blockOk (t.length : Nat) (.tuple ds) = (ds.all (belowD (t.length : Nat)) && ascD ds) := by
            show (!ds.isEmpty && _) = _
            rw [ie]
            rfl
          cases c : ds.all (belowD (t.length : Nat)) with
          | false =>
            refine ⟨_, rfl, ?_⟩
            have q := k H2 s2
            rw [eb, c] at q
            exact q
          | true =>
            obtain ⟨b1, b2, b3⟩ := belows c
            refine ⟨_, rfl, _, rfl, .ref a, ds, rfl, dp_same s2 dv, b1, b2, b3, l5, fun H3 s3 => ?_⟩
            have q := k H3 (s2.trans s3)
            rw [eb, c] at q
            exact q
end
/-! ### check_stands, check_aim, of good ones -/
section
variable {C : Addr}
theorem ascD_ints : ∀ {S : List Nat}, S.Pairwise (· < ·) → ascD (S.map fun (c : Nat) => PyData.int (c : Int)) = true
  | [], _ => rfl
  | [_], _ => rfl
  | a :: b :: S, h => by
    obtain ⟨h1, h2⟩ := List.pairwise_cons.mp h
    have ih := ascD_ints h2
    have z := h1 b List.mem_cons_self
    show (PySem.W.dataLt (.int (a : Int)) (.int (b : Int)) && ascD ((b :: S).map fun (c : Nat) => PyData.int (c : Int))) = true
    rw [ih, PySem.W.dataLt_int, decide_eq_true (by omega)]
    rfl
theorem blockOk_good {n : Nat} {S : List Nat} (h : Stands n S) : blockOk (n : Nat) (lettersD S) = true := by
  show (!(S.map fun (c : Nat) => PyData.int (c : Int)).isEmpty && ((S.map fun (c : Nat) => PyData.int (c : Int)).all (belowD (n : Nat)) && ascD _)) = true
  rw [ascD_ints h.asc]
  have e1 : (S.map fun (c : Nat) => PyData.int (c : Int)).isEmpty = false := by
    cases S with
    | nil => exact absurd rfl h.ne
    | cons x y => rfl
  have e2 : (S.map fun (c : Nat) => PyData.int (c : Int)).all (belowD (n : Nat)) = true := by
    rw [List.all_eq_true]
    intro d hd
    obtain ⟨c, hc, rfl⟩ := List.mem_map.mp hd
    have := h.lt c hc
    show (decide ((0 : Int) ≤ (c : Int)) && decide ((c : Int) < ((n : Nat) : Int))) = true
    rw [decide_eq_true (by omega), decide_eq_true (by omega)]
    rfl
  rw [e1, e2]
  rfl
def spStandsOk (K : PySem.W.Frag) (C : Addr) : Sp := fun vs H Q _ => ∃ (p : Addr) (v : V) (t : Tab) (S : List Nat), vs = [.ref p, v] ∧ Mach K C H p t ∧ t.length ≤ 6 ∧ Dp K H v (lettersD S) ∧ Stands t.length S ∧ ∀ H', Same H H' → Q .non H'
theorem ok_check_stands {f : Addr} {fd : FuncData} (F : Fun K "check_stands" "check_stands" s_check_stands f fd) (B : Blt mg) (G_is_block : DefK P w K mg base CX0 3 "is_block" P_is_block (spBlock K C)) : FnOk P w K mg base CX0 4 f fd P_check_stands (spStandsOk K C) := by
  refine F.ok sc_check_stands (fun vs H Q E h => ?_) (fun cdv A outer s H vs Q E hr h => ?_)
  · obtain ⟨p, v, t, S, rfl, _⟩ := h
    rfl
  · obtain ⟨p, v, t, S, rfl, mm, t6, dv, hS, k⟩ := h
    refine ⟨_, (pss_one (ps_if (pt_not (pt_val (pe_def G_is_block (hr.mono (by omega)) (by rfl) (pa_cons (pv 0) (pa_cons (pv 1) pa_nil))))) (pss_one ps_never) pss_nil)), ?_⟩
    refine ⟨_, rfl, _, rfl, p, v, t, lettersD S, rfl, mm, t6, dv, fun ds e => ?_, fun H1 s1 => ?_⟩
    · have e' : S.map (fun (c : Nat) => PyData.int (c : Int)) = ds := by
        unfold lettersD at e
        injection e
      rw [← e', List.length_map]
      have := hS.len
      omega
    · rw [blockOk_good hS]
      exact ⟨_, rfl, k H1 s1⟩
def spAimOk (K : PySem.W.Frag) : Sp := fun vs H Q _ => ∃ (x : Str) (a : Addr) (aims : List Str), vs = [.str x, .ref a] ∧ SqT K H a (aims.map V.str) ∧ x ∈ aims ∧ Q .non H
theorem flat_strs (xs : List Str) : (xs.map V.str).all flatV = true := by
  rw [List.all_eq_true]
  intro v hv
  obtain ⟨x, _, rfl⟩ := List.mem_map.mp hv
  rfl
theorem ok_check_aim {f : Addr} {fd : FuncData} (F : Fun K "check_aim" "check_aim" s_check_aim f fd) (B : Blt mg) : FnOk P w K mg base CX0 1 f fd P_check_aim (spAimOk K) := by
  refine F.ok sc_check_aim (fun vs H Q E h => ?_) (fun cdv A outer s H vs Q E hr h => ?_)
  · obtain ⟨x, a, aims, rfl, _⟩ := h
    rfl
  · obtain ⟨x, a, aims, rfl, sa, hx, k⟩ := h
    refine ⟨_, (pss_one (ps_if (pt_cmpR (k_notIn K) (pv 0) (pv 1) (by rfl)) (pss_one ps_never) pss_nil)), ?_⟩
    refine ⟨_, rfl, _, rfl, a, _, rfl, .inr sa, rfl, flat_strs aims, ?_⟩
    have e : inV (.str x) (aims.map V.str) = true := by
      unfold inV
      rw [List.any_eq_true]
      exact ⟨.str x, List.mem_map.mpr ⟨x, hx, rfl⟩, by simp [eqV]⟩
    rw [e]
    exact ⟨_, rfl, k⟩
end
/-! ### small facts -/
def aims3 : List String := ["first", "last", "home"]
def aims3S : List Str := ["first", "last", "home"]
theorem aims3_mem {aim : String} (h : aim ∈ aims3) : (Str.ofString aim) ∈ aims3S := by
  have z : aim = "first" ∨ aim = "last" ∨ aim = "home" := by simpa [aims3] using h
  rcases z with rfl | rfl | rfl <;> simp [aims3S]
theorem letters_len {S : List Nat} {ds : List PyData} (e : lettersD S = .tuple ds) : ds.length = S.length := by
  unfold lettersD at e
  injection e with e
  rw [← e, List.length_map]
theorem letters_at {H : Hp} {v : V} {S : List Nat} (h : Dp K H v (lettersD S)) : ∃ a, v = .ref a ∧ SqT K H a ((S.map fun (c : Nat) => (c : Int)).map V.int) := by
  obtain ⟨a, xs, rfl, sx, ax⟩ := dp_tup (show Dp K H v (.tuple (S.map fun (c : Nat) => PyData.int (c : Int))) from h)
  have e : xs = (S.map fun (c : Nat) => (c : Int)).map V.int := dps_intsV (by rw [List.map_map]; exact ax)
  subst e
  exact ⟨a, rfl, sx⟩
theorem nums_get {S : List Nat} {i : Nat} {x : V} (h : ((S.map fun (c : Nat) => (c : Int)).map V.int)[i]? = some x) : ∃ c : Nat, S[i]? = some c ∧ x = .int (c : Nat) := by
  rw [List.getElem?_map, List.getElem?_map] at h
  cases z : S[i]? with
  | none => rw [z] at h; cases h
  | some c => rw [z] at h; exact ⟨c, rfl, (Option.some.inj h).symm⟩
theorem walkD_shape {t : Tab} {m : Nat} (g : Good t m) {s : Nat} {r : List Nat} (hs : s < t.length) (hr : r.length ≤ 40) : (walkD (walkF t s r)).canLay0 = true ∧ (walkD (walkF t s r)).depth ≤ 2 := by
  cases e : walkF t s r with
  | none => exact ⟨rfl, by simp [walkD, PyData.depth]⟩
  | some p =>
    obtain ⟨q, ws⟩ := p
    have a1 : ∀ ws : List Nat, PyData.canLayAll0 (ws.map fun (c : Nat) => PyData.int (c : Int)) = true := by
      intro ws
      induction ws with
      | nil => rfl
      | cons c ws ih => simp [PyData.canLayAll0, PyData.canLay0, ih]
    have a2 : ∀ ws : List Nat, PyData.depthAll (ws.map fun (c : Nat) => PyData.int (c : Int)) = 0 := by
      intro ws
      induction ws with
      | nil => rfl
      | cons c ws ih => simp [PyData.depthAll, PyData.depth, ih]
    constructor
    · show PyData.canLayAll0 [PyData.int (q : Nat), lettersD ws] = true
      simp [PyData.canLayAll0, PyData.canLay0, lettersD, a1]
    · show PyData.depth (.tuple [PyData.int (q : Nat), lettersD ws]) ≤ 2
      simp [PyData.depth, PyData.depthAll, lettersD, a2]
theorem shaped_list {ds : List PyData} (h : ∀ d ∈ ds, d.canLay0 = true ∧ d.depth ≤ 50) : SeqAt.shaped (.list ds) = true := by
  have a1 : ∀ ds : List PyData, (∀ d ∈ ds, d.canLay0 = true ∧ d.depth ≤ 50) → PyData.canLayAll0 ds = true ∧ PyData.depthAll ds ≤ 50 := by
    intro ds
    induction ds with
    | nil => exact fun _ => ⟨rfl, Nat.zero_le _⟩
    | cons d ds ih =>
      intro h
      obtain ⟨b1, b2⟩ := ih fun e he => h e (List.mem_cons_of_mem _ he)
      obtain ⟨c1, c2⟩ := h d List.mem_cons_self
      exact ⟨by simp [PyData.canLayAll0, c1, b1], by simp only [PyData.depthAll]; omega⟩
  obtain ⟨b1, b2⟩ := a1 ds h
  unfold SeqAt.shaped
  rw [Bool.and_eq_true, decide_eq_true_eq]
  exact ⟨b1, by simp only [PyData.depth]; omega⟩
theorem noL_walk (o : Option (Nat × List Nat)) : noL (walkD o) = true := by
  cases o with
  | none => rfl
  | some p =>
    obtain ⟨q, ws⟩ := p
    show noLs [PyData.int (q : Nat), lettersD ws] = true
    simp [noLs, noL_letters, noL]
theorem eqv_walk (o : Option (Nat × List Nat)) : PyData.eqv (walkD o) .none = o.isNone := by
  cases o with
  | none => rfl
  | some p => obtain ⟨q, ws⟩ := p; rfl
theorem same_upd {H H' : Hp} {p : Addr} {o : HO} (s : Same H H') (h : H p = none) : Same H (upd H' p o) := fun b u q => by
  rw [upd_ne (ne_of_none q h)]
  exact s _ _ q
theorem dp_lettersT {H : Hp} {a : Addr} {S : List Nat} (h : SqT K H a ((S.map fun (c : Nat) => (c : Int)).map V.int)) : Dp K H (.ref a) (lettersD S) := by
  refine .tup h ?_
  have z := dps_ints (K := K) (H := H) (S.map fun (c : Nat) => (c : Int))
  rw [List.map_map (g := PyData.int)] at z
  exact z
theorem dp_lettersL {H : Hp} {a : Addr} {S : List Nat} (h : SqL K H a ((S.map fun (c : Nat) => (c : Int)).map V.int)) : Dp K H (.ref a) (.list (S.map fun (c : Nat) => PyData.int (c : Int))) := by
  refine .lst h ?_
  have z := dps_ints (K := K) (H := H) (S.map fun (c : Nat) => (c : Int))
  rw [List.map_map (g := PyData.int)] at z
  exact z
theorem shaped_ints (S : List Nat) : SeqAt.shaped (.list (S.map fun (c : Nat) => PyData.int (c : Int))) = true := by
  have a1 : ∀ ws : List Nat, PyData.canLayAll0 (ws.map fun (c : Nat) => PyData.int (c : Int)) = true ∧ PyData.depthAll (ws.map fun (c : Nat) => PyData.int (c : Int)) = 0 := by
    intro ws
    induction ws with
    | nil => exact ⟨rfl, rfl⟩
    | cons c ws ih => exact ⟨by simp [PyData.canLayAll0, PyData.canLay0, ih.1], by simp [PyData.depthAll, PyData.depth, ih.2]⟩
  obtain ⟨b1, b2⟩ := a1 S
  unfold SeqAt.shaped
  rw [Bool.and_eq_true, decide_eq_true_eq]
  exact ⟨b1, by simp only [PyData.depth]; omega⟩
theorem eqv_nil {ds : List PyData} (h : ds ≠ []) : PyData.eqv (.list ds) (.list []) = false := by
  cases ds with
  | nil => exact absurd rfl h
  | cons d ds => simp [PyData.eqv, PyData.eqvAll]
theorem shaped_nil : SeqAt.shaped (.list []) = true := by decide +kernel
/-! ### reaches -/
section
variable {C : Addr}
def spReaches (K : PySem.W.Frag) (C : Addr) : Sp := fun vs H Q _ => ∃ (p : Addr) (vS vr : V) (t : Tab) (m : Nat) (S r : List Nat) (aim : String), vs = [.ref p, vS, .str (Str.ofString aim), vr] ∧ Mach K C H p t ∧ Good t m ∧ Dp K H vS (lettersD S) ∧ Stands t.length S ∧ aim ∈ aims3 ∧ Dp K H vr (lettersD r) ∧ r.length ≤ 40 ∧ (∀ c ∈ r, c < m) ∧
  ∀ (b : Bool) H', Same H H' → (b = true ↔ Reach t S aim r) → Q (.bl b) H'
theorem ok_reaches {f : Addr} {fd : FuncData} (F : Fun K "reaches" "reaches" s_reaches f fd) (B : Blt mg) (G_check_stands : DefK P w K mg base CX0 4 "check_stands" P_check_stands (spStandsOk K C)) (G_check_aim : DefK P w K mg base CX0 1 "check_aim" P_check_aim (spAimOk K))
    (G_check_row : DefK P w K mg base CX0 3 "check_row" P_check_row (spRowGood K C)) (G_walk : DefK P w K mg base CX0 4 "walk" P_walk (spWalk K C)) {aR : Addr} (g_ROW_AIMS : mg "ROW_AIMS" = some (.ref aR)) (h_ROW_AIMS : ∀ H : Hp, SqT K H aR (aims3S.map V.str)) :
    FnOk P w K mg base CX0 5 f fd P_reaches (spReaches K C) := by
  refine F.ok sc_reaches (fun vs H Q E h => ?_) (fun cdv A outer s H vs Q E hr h => ?_)
  · obtain ⟨p, vS, vr, t, m, S, r, aim, rfl, _⟩ := h
    rfl
  · obtain ⟨p, vS, vr, t, m, S, r, aim, rfl, mm, g, dS, hS, ha, dr, r40, hc, k⟩ := h
    refine ⟨_, (pss_cons (ps_expr (pe_def G_check_stands (hr.mono (by omega)) (by rfl) (pa_cons (pv 0) (pa_cons (pv 1) pa_nil))))
 (pss_cons (ps_expr (pe_def G_check_aim (hr.mono (by omega)) (by rfl) (pa_cons (pv 2) (pa_cons (pe_gR (by rfl) g_ROW_AIMS) pa_nil))))
 (pss_cons (ps_expr (pe_def G_check_row (hr.mono (by omega)) (by rfl) (pa_cons (pv 0) (pa_cons (pv 3) pa_nil))))
 (pss_cons (ps_setLc (i := 4) (own := ([("stand", 6)] : List (Str × Nat))) (g := gName 6) (tt := tYes) rfl sc_reaches.nd rfl rfl (sw_true rfl rfl rfl (by decide +kernel)) (k_pit K (pv 1)) (blkOk_by (own := ([("stand", 6)] : List (Str × Nat))) (N := N_reaches) (sc := defScope s_reaches) (by decide +kernel)) (fun _ _ _ _ _ => by exact (pg_name (i := 6) sc_reaches.nd rfl (Or.inl rfl))) (fun _ _ _ _ _ => by exact pts_nil) (fun _ _ _ _ _ => by exact (pe_def G_walk (hr.mono (by omega)) (by rfl) (pa_cons (pv 0) (pa_cons (pv 6) (pa_cons (pv 3) pa_nil))))))
 (pss_cons (ps_if (pt_cmpR (k_inD K (room65 hr)) pe_non (pv 4) (by rfl)) (pss_one (ps_ret pe_bl)) pss_nil)
 (pss_cons (ps_if (pt_cmpR op_eq (pv 2) pe_str (nomark _)) (pss_one (ps_ret (pe_cmpR op_eq (pe_callB (k_lenX K (P := P) (w := w)) (by rfl) B.n_len boot_len (pa_cons (pe_scX K (P := P) (w := w) (own := ([("at", 9), ("_", 7)] : List (Str × Nat))) (tt := tYes) hr.units rfl sc_reaches.nd (k_pil K (pv 4)) (blkOk_by (own := ([("at", 9), ("_", 7)] : List (Str × Nat))) (N := N_reaches) (sc := defScope s_reaches) (by decide +kernel)) (fun _ _ _ _ _ => by exact (k_tgs (n := 2) K rfl (pgs_cons (pg_name (i := 9) sc_reaches.nd rfl (Or.inl rfl)) (pgs_cons (pg_name (i := 7) sc_reaches.nd rfl (Or.inl rfl)) pgs_nil)))) (fun _ _ _ _ _ => by exact pts_nil) (fun _ _ _ _ _ => by exact (pv 9))) pa_nil)) pe_int (nomark _)))) pss_nil)
 (pss_cons (ps_set (i := 5) sc_reaches.nd rfl (Or.inl rfl) (pe_callB (k_lenX K (P := P) (w := w)) (by rfl) B.n_len boot_len (pa_cons (pe_scX K (P := P) (w := w) (own := ([("_", 7), ("written", 8)] : List (Str × Nat))) (tt := tYes) hr.units rfl sc_reaches.nd (k_pil K (pv 4)) (blkOk_by (own := ([("_", 7), ("written", 8)] : List (Str × Nat))) (N := N_reaches) (sc := defScope s_reaches) (by decide +kernel)) (fun _ _ _ _ _ => by exact (k_tgs (n := 2) K rfl (pgs_cons (pg_name (i := 7) sc_reaches.nd rfl (Or.inl rfl)) (pgs_cons (pg_name (i := 8) sc_reaches.nd rfl (Or.inl rfl)) pgs_nil)))) (fun _ _ _ _ _ => by exact pts_nil) (fun _ _ _ _ _ => by exact (pv 8))) pa_nil)))
 (pss_cons (ps_if (pt_cmpR op_eq (pv 2) pe_str (nomark _)) (pss_one (ps_ret (pe_cmpR op_eq (pv 5) (pe_callB (k_len K) (by rfl) B.n_len boot_len (pa_cons (pv 4) pa_nil)) (nomark _)))) pss_nil)
 (pss_one (ps_ret (pe_cmpR op_eq (pv 5) (pe_callB (k_lenX K (P := P) (w := w)) (by rfl) B.n_len boot_len (pa_cons (pe_callTy (k_setX K (P := P) (w := w) rfl hr.units) (by rfl) B.n_set (by decide +kernel) (pa_cons (pv 4) pa_nil)) pa_nil)) (nomark _)))))))))))), ?_⟩
    refine ⟨_, rfl, _, rfl, p, vS, t, S, rfl, mm, g.hi, dS, hS, fun H1 s1 => ?_⟩
    refine ⟨_, rfl, Str.ofString aim, aR, aims3S, rfl, h_ROW_AIMS _, aims3_mem ha, ?_⟩
    refine ⟨_, rfl, _, rfl, p, vr, t, m, r, rfl, mm.same s1, g, dp_same s1 dr, r40, hc, fun H2 s2 => ?_⟩
    have s12 := s1.trans s2
    obtain ⟨aS, rfl, sS⟩ := letters_at dS
    have l6 := hS.len
    have g6 := g.hi
    refine ⟨_, rfl, aS, rfl, ⟨_, seqT s12 sS⟩, fun D hD => lc_tup (K := K) (a := aS) (xs := (S.map fun (c : Nat) => (c : Int)).map V.int) (fun i H' => ∃ us, Same H2 H' ∧ H' D = some (.lst us) ∧ DpAll K H' us ((S.take i).map fun s => walkD (walkF t s r)) ∧ us.length ≤ i) ⟨[], same_new hD _, upd_same, .nil, Nat.zero_le _⟩ (fun i H' _ ⟨_, e, _⟩ => seqT (s12.trans e) sS) ?_ ?_⟩
    · rintro i x H3 ex ⟨us, s3, eD, dus, lus⟩
      obtain ⟨c, ec, rfl⟩ := nums_get ex
      have il := (List.getElem?_eq_some_iff.mp ec).1
      have s13 := s12.trans s3
      refine ⟨rfl, ?_⟩
      refine ⟨_, rfl, _, rfl, _, rfl, p, vr, t, m, c, r, rfl, mm.same s13, g, hS.lt c (List.mem_of_getElem? ec), dp_same s13 dr, r40, hc, fun u H4 s4 du => ?_⟩
      refine ⟨us, s4 _ _ eD, small_of (by omega), us ++ [u], ?_, upd_same, ?_, by rw [List.length_append]; show us.length + 1 ≤ i + 1; omega⟩
      · intro b o q
        rw [upd_ne (ne_of_none q hD)]
        exact s4 _ _ (s3 _ _ q)
      · rw [take_more ec, List.map_append]
        refine dps_snoc (dps_upd (s4 _ _ eD) (dps_same s4 dus) (noLs_map (fun s => noL_walk _) _)) (dp_upd (s4 _ _ eD) du (noL_walk _))
    · rintro H3 ⟨us, s3, eD, dus, lus⟩
      have lS : ((S.map fun (c : Nat) => (c : Int)).map V.int).length = S.length := by rw [List.length_map, List.length_map]
      rw [lS, List.take_length] at dus
      have s13 := s12.trans s3
      have sh : SeqAt.shaped (.list (S.map fun s => walkD (walkF t s r))) = true := shaped_list fun d hd => by
        obtain ⟨s, hs, rfl⟩ := List.mem_map.mp hd
        have z := walkD_shape g (hS.lt s hs) r40
        exact ⟨z.1, by omega⟩
      have eN : ((S.map fun s => walkD (walkF t s r)).any fun z => PyData.eqv z .none) = S.any fun s => (walkF t s r).isNone := by
        rw [List.any_map]
        congr 1
        funext s
        exact eqv_walk _
      refine ⟨_, rfl, PyData.none, _, .non, .lst (SqL.of eD) dus, rfl, sh, _, rfl, ?_⟩
      rw [eN]
      cases cN : S.any fun s => (walkF t s r).isNone with
      | true =>
        refine k false H3 s13 ⟨fun z => (nomatch z), fun z => ?_⟩
        rw [List.any_eq_true] at cN
        obtain ⟨s, hs, e⟩ := cN
        exact absurd (Option.isNone_iff_eq_none.mp e) (z.1 s hs)
      | false =>
        obtain ⟨ps, hps⟩ : ∃ ps : List (Nat × List Nat), S.map (fun s => walkF t s r) = ps.map some := by
          have key : ∀ S : List Nat, (S.any fun s => (walkF t s r).isNone) = false → ∃ ps : List (Nat × List Nat), S.map (fun s => walkF t s r) = ps.map some := by
            intro S
            induction S with
            | nil => exact fun _ => ⟨[], rfl⟩
            | cons s S ih =>
              intro h
              rw [List.any_cons, Bool.or_eq_false_iff] at h
              obtain ⟨ps, e⟩ := ih h.2
              cases q : walkF t s r with
              | none => rw [q] at h; exact absurd h.1 (by decide)
              | some p => exact ⟨p :: ps, by rw [List.map_cons, List.map_cons, q, e]⟩
          exact key S cN
        have edu : (S.map fun s => walkD (walkF t s r)) = ps.map fun p => walkD (some p) := by
          have z : (S.map fun s => walkD (walkF t s r)) = (S.map fun s => walkF t s r).map walkD := by rw [List.map_map]; rfl
          rw [z, hps, List.map_map]
          rfl
        rw [edu] at dus
        have lp : S.length = ps.length := by simpa using congrArg List.length hps
        have lu : us.length = ps.length := by rw [dps_len dus, List.length_map]
        have pn : ps ≠ [] := fun z => by
          rw [z] at lp
          have := hS.pos
          rw [lp] at this
          exact absurd this (Nat.lt_irrefl _)
        have nd := hS.nodup
        -- what stands at a place of the walks
        have wat : ∀ {H' : Hp} {i : Nat} {x : V}, Same H3 H' → us[i]? = some x → ∃ (q : Nat) (ws : List Nat) (a b : Addr), ps[i]? = some (q, ws) ∧ x = .ref a ∧ SqT K H' a [.int (q : Nat), .ref b] ∧ Dp K H' (.ref b) (lettersD ws) ∧ Dp K H' (.ref a) (walkD (some (q, ws))) := by
          intro H' i x s' ex
          obtain ⟨d, ed, dx⟩ := dps_getV (dps_same s' dus) ex
          rw [List.getElem?_map] at ed
          cases ep : ps[i]? with
          | none => rw [ep] at ed; cases ed
          | some p =>
            obtain ⟨q, ws⟩ := p
            rw [ep] at ed
            obtain rfl : walkD (some (q, ws)) = d := Option.some.inj ed
            obtain ⟨a, xs, rfl, sx, ax⟩ := dp_tup (show Dp K H' x (.tuple [.int (q : Nat), lettersD ws]) from dx)
            cases ax with
            | cons h1 h2 =>
              cases h2 with
              | cons h3 h4 =>
                cases h4
                cases dp_int h1
                obtain ⟨b, rfl, _⟩ := letters_at h3
                exact ⟨q, ws, a, b, rfl, rfl, sx, h3, dx⟩
        have ne1 : (V.str (Str.ofString "first")) ≠ V.str "home" := by decide +kernel
        have ne2 : (V.str (Str.ofString "last")) ≠ V.str "home" := by decide +kernel
        have ne3 : (V.str (Str.ofString "last")) ≠ V.str "first" := by decide +kernel
        have pl6 : ps.length ≤ 6 := by omega
        have z3 : aim = "home" ∨ aim = "first" ∨ aim = "last" := by
          have z : aim = "first" ∨ aim = "last" ∨ aim = "home" := by simpa [aims3] using ha
          rcases z with z | z | z
          · exact .inr (.inl z)
          · exact .inr (.inr z)
          · exact .inl z
        rcases z3 with rfl | z3
        · refine ⟨_, rfl, rfl, _, rfl, ?_⟩
          rw [decide_eq_true rfl]
          refine ⟨_, rfl, D, rfl, ⟨_, SqL.of eD⟩, fun D2 hD2 => sc_lst (K := K) (P := P) (w := w) (a := D) (xs := us) (.inl rfl) (fun i H' => Same H3 H' ∧ SetI w H' D2 (dist ((ps.take i).map fun p => ((p.1 : Nat) : Int)))) ⟨same_new hD2 _, setI_new⟩ (fun i H' _ z => SqL.of (z.1 _ _ eD)) ?_ ?_⟩
          · rintro i x H4 ex ⟨s4, st⟩
            obtain ⟨q, ws, a, b, ep, rfl, sx, _, _⟩ := wat s4 ex
            refine ⟨a, _, rfl, sx, rfl, _, _, rfl, _, _, rfl, rfl, rfl, ?_⟩
            refine ⟨_, rfl, .inl ⟨_, _, rfl, st, ?_, fun o st' => ⟨?_, ?_⟩⟩⟩
            · have z := dist_len ((ps.take i).map fun p => ((p.1 : Nat) : Int))
              rw [List.length_map, List.length_take] at z
              omega
            · intro b2 o2 q2
              rw [upd_ne (ne_of_none q2 hD2)]
              exact s4 _ _ q2
            · rw [take_more ep, List.map_append]
              show SetI w _ D2 (dist ((ps.take i).map (fun p => ((p.1 : Nat) : Int)) ++ [((q : Nat) : Int)]))
              rw [dist_snoc]
              exact st'
          · rintro H4 ⟨s4, st⟩
            rw [lu, List.take_length] at st
            have z := dist_len (ps.map fun p => ((p.1 : Nat) : Int))
            rw [List.length_map] at z
            refine ⟨D2, rfl, .inl ⟨_, st, by omega, rfl, ?_⟩⟩
            refine k _ H4 (s13.trans s4) ?_
            rw [decide_eq_true_iff, reach_home nd pn hps]
            constructor
            · intro e
              injection e with e
              omega
            · intro e
              rw [e]
              rfl
        · have nh : (V.str (Str.ofString aim)) ≠ V.str "home" := by
            rcases z3 with rfl | rfl
            · exact ne1
            · exact ne2
          refine ⟨_, rfl, rfl, _, rfl, ?_⟩
          rw [decide_eq_false nh]
          refine ⟨_, rfl, D, rfl, ⟨_, SqL.of eD⟩, fun D2 hD2 => sc_lst (K := K) (P := P) (w := w) (a := D) (xs := us) (.inr rfl) (fun i H' => Same H3 H' ∧ SetN K P w H' D2 (dist ((ps.take i).map fun p => kD (lettersD p.2)))) ⟨same_new hD2 _, setN_new⟩ (fun i H' _ z => SqL.of (z.1 _ _ eD)) ?_ ?_⟩
          · rintro i x H4 ex ⟨s4, st⟩
            obtain ⟨q, ws, a, b, ep, rfl, sx, db, _⟩ := wat s4 ex
            refine ⟨a, _, rfl, sx, rfl, _, _, rfl, _, _, rfl, rfl, rfl, ?_⟩
            refine ⟨_, rfl, .inr ⟨_, b, _, rfl, st, key_letters db, isNum_letters ws, ?_, fun o st' => ⟨?_, ?_⟩⟩⟩
            · have z := dist_len ((ps.take i).map fun p => kD (lettersD p.2))
              rw [List.length_map, List.length_take] at z
              omega
            · intro b2 o2 q2
              rw [upd_ne (ne_of_none q2 hD2)]
              exact s4 _ _ q2
            · rw [take_more ep, List.map_append]
              show SetN K P w _ D2 (dist ((ps.take i).map (fun p => kD (lettersD p.2)) ++ [kD (lettersD ws)]))
              rw [dist_snoc]
              exact st'
          · rintro H4 ⟨s4, st⟩
            rw [lu, List.take_length] at st
            refine ⟨D2, rfl, .inr ⟨_, st, ?_⟩⟩
            rcases z3 with rfl | rfl
            · refine ⟨_, rfl, rfl, _, rfl, ?_⟩
              rw [decide_eq_true rfl]
              refine ⟨_, rfl, _, rfl, D, us, rfl, .inl (SqL.of (s4 _ _ eD)), rfl, ?_⟩
              refine k _ H4 (s13.trans s4) ?_
              rw [decide_eq_true_iff, reach_first nd hps, lu]
              constructor
              · intro e
                injection e with e
                omega
              · intro e
                rw [e]
            · refine ⟨_, rfl, rfl, _, rfl, ?_⟩
              rw [decide_eq_false ne3]
              obtain ⟨ks, eks, kks, kps⟩ : ∃ ks : List NM, us = ks.map (fun p => V.ref p.1) ∧ (∀ p ∈ ks, IsKey K H4 p.1 p.2 ∧ isNum p.2 = true) ∧ ks.map (·.2) = ps.map walkK := by
                have key : ∀ (us : List V) (ps : List (Nat × List Nat)), us.length = ps.length → (∀ (i : Nat) x, us[i]? = some x → ∃ p a, ps[i]? = some p ∧ x = .ref a ∧ Dp K H4 (.ref a) (walkD (some p))) → ∃ ks : List NM, us = ks.map (fun p => V.ref p.1) ∧ (∀ p ∈ ks, IsKey K H4 p.1 p.2 ∧ isNum p.2 = true) ∧ ks.map (·.2) = ps.map walkK := by
                  intro us
                  induction us with
                  | nil =>
                    intro ps hl _
                    cases ps with
                    | nil => exact ⟨[], rfl, (fun _ z => nomatch z), rfl⟩
                    | cons p ps => simp at hl
                  | cons u us ih =>
                    intro ps hl hx
                    cases ps with
                    | nil => simp at hl
                    | cons p ps =>
                      obtain ⟨p0, a, e1, rfl, d⟩ := hx 0 u rfl
                      cases (Option.some.inj e1 : p = p0)
                      obtain ⟨ks, e2, e3, e4⟩ := ih ps (by simpa using hl) fun i x e => by
                        have z := hx (i + 1) x (by simpa using e)
                        simpa using z
                      refine ⟨(a, walkK p) :: ks, by rw [e2]; rfl, fun q hq => ?_, by rw [List.map_cons, List.map_cons, e4]⟩
                      rcases List.mem_cons.mp hq with rfl | hq
                      · exact key_walk d
                      · exact e3 q hq
                refine key us ps lu fun i x e => ?_
                obtain ⟨q, ws, a, b, ep, rfl, _, _, d⟩ := wat s4 e
                exact ⟨_, a, ep, rfl, d⟩
              have lk : ks.length = ps.length := by rw [← lu, eks, List.length_map]
              refine ⟨_, rfl, _, rfl, D, rfl, .inr ⟨ks, by rw [← eks]; exact SqL.of (s4 _ _ eD), by omega, kks, fun p2 o hp2 st2 => ?_⟩⟩
              have s5 := same_new hp2 o
              refine ⟨p2, rfl, .inr ⟨_, st2, rfl, ?_⟩⟩
              refine k _ _ (s13.trans (s4.trans s5)) ?_
              rw [decide_eq_true_iff, reach_last nd hps, kps]
              constructor
              · intro e
                injection e with e
                omega
              · intro e
                rw [e]
end
/-! ### _law_mix: the source is made -/
def spMix (K : PySem.W.Frag) : Sp := fun vs H Q _ => ∃ (a : Addr) (ns : List Int) (seed : Int), vs = [.ref a, .int seed] ∧ SqL K H a (ns.map V.int) ∧ ns.length ≤ 63 ∧ 0 ≤ seed ∧ seed < 2147483647 ∧
  ∀ (h l : Addr) (H' : Hp), Same H H' → H h = none → H l = none → Src H' h l → Q (.ref h) H'
theorem ok_law_mix {f : Addr} {fd : FuncData} (F : Fun K "_law_mix" "_law_mix" s__law_mix f fd) (B : Blt mg) : FnOk P w K mg base CX0 1 f fd P__law_mix (spMix K) := by
  refine F.ok sc__law_mix (fun vs H Q E h => ?_) (fun cdv A outer s H vs Q E hr h => ?_)
  · obtain ⟨a, ns, seed, rfl, _⟩ := h
    rfl
  · obtain ⟨a, ns, seed, rfl, hS, hlen, s0, s1, k⟩ := h
    refine ⟨_, (pss_cons (ps_set (i := 2) sc__law_mix.nd rfl (Or.inl rfl) (pv 1))
 (pss_cons (ps_for PassesOwn.never rfl (k_pil K (pv 0)) (pg_name (i := 3) sc__law_mix.nd rfl (Or.inl rfl))
 (pss_one (ps_set (i := 2) sc__law_mix.nd rfl (Or.inl rfl) (pe_op op_modN (pe_callTy k_int1 (by rfl) B.n_int (by decide +kernel) (pa_cons (pe_op op_add (pe_op op_add (pe_op op_mul (pv 2) pe_int) (pe_op op_modN (pe_callTy k_int1 (by rfl) B.n_int (by decide +kernel) (pa_cons (pv 3) pa_nil)) pe_int)) pe_int) pa_nil)) pe_int))))
 (pss_one (ps_ret (pe_lst (pa_cons (pv 2) (pa_cons (pe_callTy (k_listOf K) (by rfl) B.n_list (by decide +kernel) (pa_cons (pv 0) pa_nil)) (pa_cons pe_int pa_nil)))))))), ?_⟩
    refine ⟨_, rfl, _, rfl, a, rfl, ⟨_, hS⟩, for_list (K := K) (a := a) (xs := ns.map V.int) (fun i σ H' => H' = H ∧ ∃ (st : Int) (v : Option V), σ = [some (.ref a), some (.int seed), some (.int st), v] ∧ 0 ≤ st ∧ st < 2147483647)
      ⟨rfl, seed, none, rfl, s0, s1⟩ (fun i σ H' _ ⟨e, _⟩ => e ▸ hS) ?_ ?_⟩
    · rintro i x σ H' hi ⟨rfl, st, v, rfl, b0, b1⟩
      obtain ⟨n, rfl⟩ : ∃ n, x = V.int n := by
        rw [List.getElem?_map] at hi
        cases e : ns[i]? with
        | none => rw [e] at hi; cases hi
        | some u => rw [e] at hi; exact ⟨u, (Option.some.inj hi).symm⟩
      walk_at "rd"
      exact ⟨rfl, _, _, rfl, Int.fmod_nonneg_of_pos _ (by decide), Int.fmod_lt_of_pos _ (by decide)⟩
    · rintro σ H' ⟨rfl, st, v, rfl, b0, b1⟩
      walk_at "rd"
      refine ⟨a, _, rfl, .inl hS, fun l hl => ⟨by show 3 ≤ sizeLine; decide, fun h hh => ?_⟩⟩
      have hl' : H' h = none := (same_new hl _).free hh
      have lh : l ≠ h := fun z => by rw [← z, upd_same] at hh; cases hh
      refine k h l _ ((same_new hl _).trans (same_new hh _)) hl' hl ⟨lh.symm, st, 0, ns, upd_same, ?_, hlen, b0, b1⟩
      rw [upd_ne lh, upd_same]
/-! ### _law_next: a draw below a cap -/
def spNext : Sp := fun vs H Q _ => ∃ (h l : Addr) (cap : Int), vs = [.ref h, .int cap] ∧ Src H h l ∧ 0 < cap ∧ cap < 1000000 ∧
  ∀ (n : Nat) (H' : Hp), (n : Int) < cap → Src H' h l → Keep h l H H' → Q (.int n) H'
theorem ok_law_next {f : Addr} {fd : FuncData} (F : Fun K "_law_next" "_law_next" s__law_next f fd) (B : Blt mg) : FnOk P w K mg base CX0 1 f fd P__law_next spNext := by
  refine F.ok sc__law_next (fun vs H Q E h => ?_) (fun cdv A outer s H vs Q E hr h => ?_)
  · obtain ⟨h, l, cap, rfl, _⟩ := h
    rfl
  · obtain ⟨h, l, cap, rfl, S, c0, c1, k⟩ := h
    obtain ⟨ne, st, ix, cells, e1, e2, hlen, b0, b1⟩ := id S
    refine ⟨_, (pss_cons (ps_set (i := 2) sc__law_next.nd rfl (Or.inl rfl) (pe_ix (k_ixL K) (pe_op op_cat (pe_ix (k_ixL K) (pv 0) pe_int (fun _ _ => rfl)) (pe_lst (pa_cons pe_int pa_nil))) (pe_op op_modN (pe_callTy k_int1 (by rfl) B.n_int (by decide +kernel) (pa_cons (pe_ix (k_ixL K) (pv 0) pe_int (fun _ _ => rfl)) pa_nil)) (pe_callB (call_max2 rfl) (by rfl) B.n_max (by decide +kernel) (pa_cons pe_int (pa_cons (pe_callB (k_len K) (by rfl) B.n_len boot_len (pa_cons (pe_ix (k_ixL K) (pv 0) pe_int (fun _ _ => rfl)) pa_nil)) pa_nil)))) (fun _ _ => rfl)))
 (pss_cons (ps_if (pt_cmpR op_ge (pv 2) (pe_op op_pow pe_int pe_int) (nomark _)) (pss_cons (ps_asg (pe_op op_fdivN (pv 2) (pv 1)) (pg_sub (pe_ix (k_ixL K) (pv 0) pe_int (fun _ _ => rfl)) (pe_op op_modN (pe_callTy k_int1 (by rfl) B.n_int (by decide +kernel) (pa_cons (pe_ix (k_ixL K) (pv 0) pe_int (fun _ _ => rfl)) pa_nil)) (pe_callB (k_len K) (by rfl) B.n_len boot_len (pa_cons (pe_ix (k_ixL K) (pv 0) pe_int (fun _ _ => rfl)) pa_nil))) set_list))
 (pss_one (ps_ret (pe_op op_modN (pe_callTy k_int1 (by rfl) B.n_int (by decide +kernel) (pa_cons (pv 2) pa_nil)) (pv 1))))) pss_nil)
 (pss_cons (ps_asg (pe_op op_modN (pe_callTy k_int1 (by rfl) B.n_int (by decide +kernel) (pa_cons (pe_op op_add (pe_op op_add (pe_op op_mul (pe_ix (k_ixL K) (pv 0) pe_int (fun _ _ => rfl)) pe_int) (pe_op op_mul (pv 2) pe_int)) pe_int) pa_nil)) pe_int) (pg_sub (pv 0) pe_int set_list))
 (pss_cons (ps_asg (pe_op op_add (pe_ix (k_ixL K) (pv 0) pe_int (fun _ _ => rfl)) pe_int) (pg_sub (pv 0) pe_int set_list))
 (pss_one (ps_ret (pe_op op_modN (pe_callTy k_int1 (by rfl) B.n_int (by decide +kernel) (pa_cons (pe_op op_fdivN (pe_ix (k_ixL K) (pv 0) pe_int (fun _ _ => rfl)) pe_int) pa_nil)) (pv 1)))))))), ?_⟩
    have l_h : ∀ {H' : Hp}, Same H H' → H' h = some (.lst [.int st, .ref l, .int ix]) ∧ H' l = some (.lst (cells.map V.int)) := fun e => ⟨e _ _ e1, e _ _ e2⟩
    have sl : (cells.map V.int).length = cells.length := List.length_map _
    -- the cell
    refine ⟨_, rfl, h, _, _, _, rfl, rfl, SqL.of e1, rfl, by show 1 ≤ sizeLine; decide, fun q hq => ?_⟩
    have s1 : Same H (upd H q (.lst [.int 0])) := same_new hq _
    obtain ⟨f1, f2⟩ := l_h s1
    refine ⟨l, q, _, _, rfl, rfl, f2, upd_same, Nat.le_trans (by rw [sl]; exact Nat.add_le_add_right hlen 1) (by decide : 64 ≤ sizeLine), fun p hp => ?_⟩
    have s2 : Same H (upd (upd H q (.lst [.int 0])) p (.lst (cells.map V.int ++ [.int 0]))) := s1.trans (same_new hp _)
    have gp : (upd (upd H q (.lst [.int 0])) p (.lst (cells.map V.int ++ [.int 0]))) p = some (.lst (cells.map V.int ++ [.int 0])) := upd_same
    revert s2 gp
    generalize upd (upd H q (.lst [.int 0])) p (.lst (cells.map V.int ++ [.int 0])) = H2
    intro s2 gp
    obtain ⟨g1, g2⟩ := l_h s2
    generalize em : (if (((cells.map V.int).length : Nat) : Int) > 1 then (((cells.map V.int).length : Nat) : Int) else 1) = m
    have m0 : 0 < m := by rw [← em, sl]; split <;> omega
    have m1 : m ≤ (((cells ++ [0]).length : Nat) : Int) := by rw [← em, sl, List.length_append, List.length_singleton]; split <;> omega
    have x0 := Int.fmod_nonneg_of_pos ix m0
    have x1 := Int.fmod_lt_of_pos ix m0
    obtain ⟨c, hc, cm⟩ := atI_int (ns := cells ++ [0]) x0 (Int.lt_of_lt_of_le x1 m1)
    rw [List.map_append] at hc
    refine ⟨_, rfl, h, _, _, _, rfl, rfl, SqL.of g1, rfl, .inl ⟨_, rfl, _, rfl, h, _, _, _, rfl, rfl, SqL.of g1, rfl, l, _, rfl, .inl (SqL.of g2), _, _, rfl, _, _, rfl, rfl, ?_, p, _, _, .int c, rfl, rfl, SqL.of gp, ?_, ?_⟩⟩
    · show (if (((cells.map V.int).length : Nat) : Int) > 1 then (((cells.map V.int).length : Nat) : Int) else 1) ≠ 0
      rw [em]
      omega
    · show atI _ (ix.fmod (if (((cells.map V.int).length : Nat) : Int) > 1 then (((cells.map V.int).length : Nat) : Int) else 1)) = _
      rw [em]
      exact hc
    -- is it great
    refine ⟨_, rfl, _, _, rfl, rfl, ⟨by decide, by decide, by decide⟩, _, _, rfl, rfl, _, rfl, ?_⟩
    have hb : (0 : Int) < (10 : Int) ^ (18 : Int).toNat := by decide
    revert hb
    generalize ((10 : Int) ^ (18 : Int).toNat) = big
    intro hb
    refine ite2 (fun t => ?_) (fun t => ?_)
    · have t' : big ≤ c := of_decide_eq_true t
      have nz : 0 < cells.length := by
        rcases List.mem_append.mp cm with z | z
        · exact List.length_pos_of_mem z
        · rw [List.mem_singleton.mp z] at t'
          omega
      have y0 := Int.fmod_nonneg_of_pos ix (b := (cells.length : Int)) (by omega)
      have y1 := Int.fmod_lt_of_pos ix (b := (cells.length : Int)) (by omega)
      refine ⟨_, rfl, _, rfl, _, _, rfl, rfl, ⟨by omega, by omega⟩, _, rfl, h, _, _, _, rfl, rfl, SqL.of g1, rfl, _, rfl, h, _, _, _, rfl, rfl, SqL.of g1, rfl, .inl ⟨_, rfl, _, rfl, h, _, _, _, rfl, rfl, SqL.of g1, rfl, l, _, rfl, .inl (SqL.of g2), _, _, rfl, rfl, ?_, l, _, _, (ix.fmod (cells.length : Int)).toNat, rfl, rfl, g2, ?_, ?_⟩⟩
      · show (((cells.map V.int).length : Nat) : Int) ≠ 0
        rw [sl]
        omega
      · show ixN (cells.map V.int).length (ix.fmod (((cells.map V.int).length : Nat) : Int)) = _
        rw [sl]
        exact ixN_in y0 y1
      refine ⟨_, rfl, .inl ⟨_, rfl, _, rfl, _, _, rfl, rfl, (fun z => by omega), ?_⟩⟩
      have z0 := Int.fmod_nonneg_of_pos c c0
      have z1 := Int.fmod_lt_of_pos c c0
      have ez : c.fmod cap = (((c.fmod cap).toNat : Nat) : Int) := by omega
      show Q (.int (c.fmod cap)) _
      rw [ez]
      refine k _ _ (by omega) ⟨ne, st, ix, cells.set (ix.fmod (cells.length : Int)).toNat (c.fdiv cap), ?_, ?_, ?_, b0, b1⟩ (fun b o n1 n2 e => ?_)
      · rw [upd_ne ne]
        exact g1
      · rw [upd_same, List.map_set]
      · rw [List.length_set]
        exact hlen
      · rw [upd_ne n2]
        exact s2 _ _ e
    · refine ⟨_, rfl, h, _, _, _, rfl, rfl, SqL.of g1, rfl, _, _, rfl, rfl, .inr ⟨by decide, by decide⟩, _, rfl, _, _, rfl, rfl, .inr ⟨by decide, by decide⟩, _, _, rfl, rfl, _, _, rfl, rfl, .inl ⟨_, rfl, _, _, rfl, rfl, (fun z => by omega), _, rfl, h, _, _, 0, rfl, rfl, g1, rfl, ?_⟩⟩
      refine ⟨_, rfl, h, _, _, _, rfl, rfl, SqL.of upd_same, rfl, _, _, rfl, rfl, _, rfl, h, _, _, 2, rfl, rfl, upd_same, rfl, ?_⟩
      refine ⟨_, rfl, h, _, _, _, rfl, rfl, SqL.of upd_same, rfl, _, _, rfl, rfl, ⟨by decide, by decide⟩, .inl ⟨_, rfl, _, rfl, _, _, rfl, rfl, (fun z => by omega), ?_⟩⟩
      obtain ⟨u, ew⟩ : ∃ u, Int.fdiv (Int.fmod (st * 48271 + c * 69621 + 11) 2147483647) 7 = u := ⟨_, rfl⟩
      have z0 := Int.fmod_nonneg_of_pos u c0
      have z1 := Int.fmod_lt_of_pos u c0
      have ez : u.fmod cap = (((u.fmod cap).toNat : Nat) : Int) := by omega
      have go : Q (.int (u.fmod cap)) (upd (upd H2 h (.lst [.int (Int.fmod (st * 48271 + c * 69621 + 11) 2147483647), .ref l, .int ix])) h (.lst [.int (Int.fmod (st * 48271 + c * 69621 + 11) 2147483647), .ref l, .int (ix + 1)])) := by
        rw [ez]
        refine k _ _ (by omega) ⟨ne, _, _, cells, upd_same, ?_, hlen, Int.fmod_nonneg_of_pos _ (by decide), Int.fmod_lt_of_pos _ (by decide)⟩ (fun b o n1 n2 e => ?_)
        · rw [upd_ne ne.symm, upd_ne ne.symm]
          exact g2
        · rw [upd_ne n1, upd_ne n1]
          exact s2 _ _ e
      rw [← ew] at go
      exact go
/-! ### _law_pick: one of some things -/
def spPick : Sp := fun vs H Q _ => ∃ (h l a : Addr) (xs : List V), vs = [.ref h, .ref a] ∧ Src H h l ∧ H a = some (.lst xs) ∧ a ≠ h ∧ a ≠ l ∧ 0 < xs.length ∧ xs.length < 1000000 ∧
  ∀ (v : V) (H' : Hp), v ∈ xs → Src H' h l → Keep h l H H' → Q v H'
theorem ok_law_pick {f : Addr} {fd : FuncData} (F : Fun K "_law_pick" "_law_pick" s__law_pick f fd) (B : Blt mg) (G__law_next : DefK P w K mg base CX0 1 "_law_next" P__law_next spNext) : FnOk P w K mg base CX0 2 f fd P__law_pick spPick := by
  refine F.ok sc__law_pick (fun vs H Q E h => ?_) (fun cdv A outer s H vs Q E hr h => ?_)
  · obtain ⟨h, l, a, xs, rfl, _⟩ := h
    rfl
  · obtain ⟨h, l, a, xs, rfl, S, ea, n1, n2, p0, p1, k⟩ := h
    refine ⟨_, (pss_one (ps_ret (pe_ix (k_ixL K) (pv 1) (pe_def G__law_next (hr.mono (by omega)) (by rfl) (pa_cons (pv 0) (pa_cons (pe_callB (k_len K) (by rfl) B.n_len boot_len (pa_cons (pv 1) pa_nil)) pa_nil))) (fun _ _ => rfl)))), ?_⟩
    refine ⟨_, rfl, _, rfl, _, rfl, a, _, rfl, .inl (SqL.of ea), h, l, xs.length, rfl, S, by omega, by omega, fun n H' hn S' kp => ?_⟩
    obtain ⟨v, e1, _, e3⟩ := atI_at (xs := xs) (i := (n : Int)) (by omega) hn
    exact ⟨a, xs, _, v, rfl, rfl, SqL.of (kp _ _ n1 n2 ea), e1, k v H' e3 S' kp⟩
/-! ### _law_table: a table is drawn -/
def spTable (K : PySem.W.Frag) : Sp := fun vs H Q _ => ∃ (h l : Addr), vs = [.ref h] ∧ Src H h l ∧
  ∀ (v : V) (t : Tab) (m : Nat) (H' : Hp), Good t m → Dp K H' v (tabD t) → Src H' h l → Keep h l H H' → Q v H'
def GoodRow (M m : Nat) (r : List Stp) : Prop := r.length ≤ m ∧ ∀ n x, some (n, x) ∈ r → n < M ∧ x < 4
theorem ok_law_table {f : Addr} {fd : FuncData} (F : Fun K "_law_table" "_law_table" s__law_table f fd) (B : Blt mg) (G__law_next : DefK P w K mg base CX0 1 "_law_next" P__law_next spNext)
    (G__law_pick : DefK P w K mg base CX0 2 "_law_pick" P__law_pick spPick) : FnOk P w K mg base CX0 3 f fd P__law_table (spTable K) := by
  refine F.ok sc__law_table (fun vs H Q E h => ?_) (fun cdv A outer s H vs Q E hr h => ?_)
  · obtain ⟨h, l, rfl, _⟩ := h
    rfl
  · obtain ⟨h, l, rfl, S, k⟩ := h
    refine ⟨_, (pss_cons (ps_par (i := 1) (j := 2) rfl sc__law_table.nd rfl rfl (by decide) rfl rfl (pa_cons (pe_op op_add pe_int (pe_def G__law_next (hr.mono (by omega)) (by rfl) (pa_cons (pv 0) (pa_cons pe_int pa_nil)))) (pa_cons (pe_op op_add pe_int (pe_def G__law_next (hr.mono (by omega)) (by rfl) (pa_cons (pv 0) (pa_cons pe_int pa_nil)))) pa_nil)) rfl)
 (pss_cons (ps_par3 (i := 3) (j := 4) (l := 5) rfl sc__law_table.nd rfl rfl rfl (by decide) (by decide) (by decide) rfl rfl rfl (pa_cons (pe_def G__law_pick (hr.mono (by omega)) (by rfl) (pa_cons (pv 0) (pa_cons (pe_lst (pa_cons pe_int (pa_cons pe_int (pa_cons pe_int (pa_cons pe_int (pa_cons pe_int pa_nil)))))) pa_nil))) (pa_cons (pe_def G__law_pick (hr.mono (by omega)) (by rfl) (pa_cons (pv 0) (pa_cons (pe_lst (pa_cons pe_int (pa_cons pe_int (pa_cons pe_int (pa_cons pe_int (pa_cons pe_int pa_nil)))))) pa_nil))) (pa_cons (pe_def G__law_next (hr.mono (by omega)) (by rfl) (pa_cons (pv 0) (pa_cons pe_int pa_nil))) pa_nil))) (by rfl))
 (pss_cons (ps_set (i := 6) sc__law_table.nd rfl (Or.inl rfl) (pe_lst pa_nil))
 (pss_cons (ps_for PassesOwn.never rfl (pi_range1 (by rfl) B.n_range (pa_cons (pv 1) pa_nil)) (pg_name (i := 7) sc__law_table.nd rfl (Or.inl rfl))
 (pss_cons (ps_set (i := 8) sc__law_table.nd rfl (Or.inl rfl) (pe_lst pa_nil))
 (pss_cons (ps_for PassesOwn.never rfl (pi_range1 (by rfl) B.n_range (pa_cons (pv 2) pa_nil)) (pg_name (i := 9) sc__law_table.nd rfl (Or.inl rfl))
 (pss_cons (ps_par (i := 10) (j := 11) rfl sc__law_table.nd rfl rfl (by decide) rfl rfl (pa_cons (pe_def G__law_next (hr.mono (by omega)) (by rfl) (pa_cons (pv 0) (pa_cons (pv 1) pa_nil))) (pa_cons (pe_def G__law_next (hr.mono (by omega)) (by rfl) (pa_cons (pv 0) (pa_cons (pv 3) pa_nil))) pa_nil)) rfl)
 (pss_mid (ps_if (pt_cmpR op_eq (pv 5) pe_int (nomark _)) (pss_cons (ps_set (i := 10) sc__law_table.nd rfl (Or.inl rfl) (pe_op op_modN (pe_callTy k_int1 (by rfl) B.n_int (by decide +kernel) (pa_cons (pe_op op_add (pv 7) (pv 9)) pa_nil)) (pv 1)))
 (pss_one (ps_set (i := 11) sc__law_table.nd rfl (Or.inl rfl) (pe_ifExp (pt_cmpR op_eq (pv 9) pe_int (nomark _)) (pe_ifExp (pt_cmpR op_eq (pv 7) pe_int (nomark _)) pe_int pe_int) pe_int)))) pss_nil)
 (pss_mid (ps_if (PW.pt (pw_and (pt_cmpR op_eq (pv 5) pe_int (nomark _)) (pw_and1 (pt_cmpR op_eq (pv 9) pe_int (nomark _))))) (pss_one (ps_set (i := 10) sc__law_table.nd rfl (Or.inl rfl) (pe_op op_modN (pe_callTy k_int1 (by rfl) B.n_int (by decide +kernel) (pa_cons (pe_op op_add (pv 7) pe_int) pa_nil)) (pv 1)))) pss_nil)
 (pss_one (ps_expr (pe_bm PySem.F.plainAttrs_list PySem.F.slot_list_append PySem.F.type_list_append mt_append (pv 8) (pa_cons (pe_ifExp (pt_cmpR op_lt (pe_def G__law_next (hr.mono (by omega)) (by rfl) (pa_cons (pv 0) (pa_cons pe_int pa_nil))) (pv 4) (nomark _)) pe_non (pe_tup (pa_cons (pv 10) (pa_cons (pv 11) pa_nil)))) pa_nil))))))))
 (pss_one (ps_expr (pe_bm PySem.F.plainAttrs_list PySem.F.slot_list_append PySem.F.type_list_append mt_append (pv 6) (pa_cons (pe_callTy (k_tupOf K) (by rfl) B.n_tuple (by decide +kernel) (pa_cons (pv 8) pa_nil)) pa_nil)))))))
 (pss_one (ps_ret (pe_callTy (k_tupOf K) (by rfl) B.n_tuple (by decide +kernel) (pa_cons (pv 6) pa_nil)))))))), ?_⟩
    refine ⟨_, rfl, h, l, 6, rfl, S, by decide, by decide, fun n1 H1 b1 S1 k1 => ⟨_, _, rfl, rfl, _, rfl, h, l, 2, rfl, S1, by decide, by decide, fun n2 H2 b2 S2 k2 => ⟨_, _, rfl, rfl, _, _, rfl, ?_⟩⟩⟩
    refine ⟨_, rfl, by show 5 ≤ sizeLine; decide, fun p hp => ⟨h, l, p, _, rfl, S2.same (same_new hp _), upd_same, (S2.neN hp).1, (S2.neN hp).2, by show 0 < 5; decide, by show 5 < 1000000; decide, fun v3 H3 m3 S3 k3 => ?_⟩⟩
    refine ⟨_, rfl, by show 5 ≤ sizeLine; decide, fun p' hp' => ⟨h, l, p', _, rfl, S3.same (same_new hp' _), upd_same, (S3.neN hp').1, (S3.neN hp').2, by show 0 < 5; decide, by show 5 < 1000000; decide, fun v4 H4 m4 S4 k4 => ?_⟩⟩
    refine ⟨_, rfl, h, l, 3, rfl, S4, by decide, by decide, fun n5 H5 b5 S5 k5 => ⟨_, _, _, rfl, ?_⟩⟩
    obtain ⟨cap, rfl, c0, c1⟩ : ∃ cap : Int, v3 = .int cap ∧ 0 < cap ∧ cap ≤ 4 := by
      have z : v3 = .int 1 ∨ v3 = .int 2 ∨ v3 = .int 4 := by simpa using m3
      rcases z with rfl | rfl | rfl
      · exact ⟨1, rfl, by decide, by decide⟩
      · exact ⟨2, rfl, by decide, by decide⟩
      · exact ⟨4, rfl, by decide, by decide⟩
    obtain ⟨lk, rfl⟩ : ∃ lk : Int, v4 = .int lk := by
      have z : v4 = .int 0 ∨ v4 = .int 1 ∨ v4 = .int 3 := by simpa using m4
      rcases z with rfl | rfl | rfl <;> exact ⟨_, rfl⟩
    have kk : Keep h l H H5 := k1.trans (k2.trans ((Keep.of (same_new hp _)).trans (k3.trans ((Keep.of (same_new hp' _)).trans (k4.trans k5)))))
    clear k1 k2 k3 k4 k5 S S1 S2 S3 S4 hp hp' m3 m4
    refine ⟨by show 0 ≤ sizeLine; decide, fun R hR => ?_⟩
    have nR := S5.neN hR
    have kR : Keep h l H (upd H5 R (.lst [])) := kk.trans (.of (same_new hR _))
    refine ⟨_, rfl, _, rfl, by omega, by omega, for_range (lo := 0) (n := (1 + (n1 : Int)).toNat) (fun i σ H' => ∃ (vs : List V) (t : Tab) (u7 u8 u9 u10 u11 : Option V),
      σ = [some (.ref h), some (.int (1 + (n1 : Int))), some (.int (2 + (n2 : Int))), some (.int cap), some (.int lk), some (.int (n5 : Int)), some (.ref R), u7, u8, u9, u10, u11] ∧ Src H' h l ∧ Keep h l H H' ∧
      H' R = some (.lst vs) ∧ DpAll K H' vs (t.map rowD) ∧ t.length = i ∧ ∀ r ∈ t, r.length = 2 + n2 ∧ ∀ n x, some (n, x) ∈ r → n < 1 + n1 ∧ x < 4)
      ⟨[], [], none, none, none, none, none, rfl, S5.same (same_new hR _), kR, upd_same, .nil, rfl, fun _ z => nomatch z⟩ ?_ ?_⟩
    · rintro i σ H6 hi ⟨vs, t, u7, u8, u9, u10, u11, rfl, S6, k6, eR, dR, tl, tg⟩
      refine ⟨by show 0 ≤ sizeLine; decide, fun p hp => ?_⟩
      have np := S6.neN hp
      have Rp : R ≠ p := ne_of_none eR hp
      refine ⟨_, rfl, _, rfl, by omega, by omega, for_range (lo := 0) (n := (2 + (n2 : Int)).toNat) (fun j σ H' => ∃ (rs : List V) (r : List Stp) (u9 u10 u11 : Option V),
        σ = [some (.ref h), some (.int (1 + (n1 : Int))), some (.int (2 + (n2 : Int))), some (.int cap), some (.int lk), some (.int (n5 : Int)), some (.ref R), some (.int (0 + (i : Int))), some (.ref p), u9, u10, u11] ∧ Src H' h l ∧ Keep h l H H' ∧
        H' R = some (.lst vs) ∧ DpAll K H' vs (t.map rowD) ∧ H' p = some (.lst rs) ∧ DpAll K H' rs (r.map stepD) ∧ r.length = j ∧ ∀ n x, some (n, x) ∈ r → n < 1 + n1 ∧ x < 4)
        ⟨[], [], u9, u10, u11, rfl, S6.same (same_new hp _), k6.trans (.of (same_new hp _)), by rw [upd_ne Rp]; exact eR, dps_same (same_new hp _) dR, upd_same, .nil, rfl, fun _ _ z => nomatch z⟩ ?_ ?_⟩
      · rintro j σ H7 hj ⟨rs, r, w9, w10, w11, rfl, S7, k7, eR7, dR7, ep, dr, rl, rg⟩
        refine ⟨_, rfl, _, rfl, h, l, _, rfl, S7, by omega, by omega, fun g H8 bg S8 k8 => ⟨_, rfl, _, rfl, h, l, cap, rfl, S8, c0, by omega, fun q H9 bq S9 k9 => ⟨_, _, rfl, ?_⟩⟩⟩
        have k79 := k8.trans k9
        refine ⟨fun σ H' => H' = H9 ∧ ∃ g q : Int, σ = [some (.ref h), some (.int (1 + (n1 : Int))), some (.int (2 + (n2 : Int))), some (.int cap), some (.int lk), some (.int (n5 : Int)), some (.ref R), some (.int (0 + (i : Int))), some (.ref p), some (.int (0 + (j : Int))), some (.int g), some (.int q)] ∧ 0 ≤ g ∧ g < 1 + (n1 : Int) ∧ 0 ≤ q ∧ q < 4, ?_, ?_⟩
        · refine ⟨_, rfl, rfl, _, rfl, ?_⟩
          refine ite2 (fun _ => ?_) (fun _ => ?_)
          · have f0 := Int.fmod_nonneg_of_pos (0 + (i : Int) + (0 + (j : Int))) (b := 1 + (n1 : Int)) (by omega)
            have f1 := Int.fmod_lt_of_pos (0 + (i : Int) + (0 + (j : Int))) (b := 1 + (n1 : Int)) (by omega)
            refine ⟨_, rfl, _, rfl, _, _, rfl, rfl, .inl ⟨_, rfl, _, rfl, _, _, rfl, rfl, (fun z => by omega), _, rfl, rfl, _, rfl, ?_⟩⟩
            refine ite2 (fun _ => ?_) (fun _ => ⟨rfl, _, _, rfl, f0, f1, by decide, by decide⟩)
            refine ⟨_, rfl, rfl, _, rfl, ?_⟩
            exact ite2 (fun _ => ⟨rfl, _, _, rfl, f0, f1, by decide, by decide⟩) (fun _ => ⟨rfl, _, _, rfl, f0, f1, by decide, by decide⟩)
          · exact ⟨rfl, (g : Int), (q : Int), rfl, by omega, by omega, by omega, by omega⟩
        · rintro σ H' ⟨rfl, g, q, rfl, g0, g1, q0, q1⟩
          refine ⟨fun σ H'' => H'' = H' ∧ ∃ g q : Int, σ = [some (.ref h), some (.int (1 + (n1 : Int))), some (.int (2 + (n2 : Int))), some (.int cap), some (.int lk), some (.int (n5 : Int)), some (.ref R), some (.int (0 + (i : Int))), some (.ref p), some (.int (0 + (j : Int))), some (.int g), some (.int q)] ∧ 0 ≤ g ∧ g < 1 + (n1 : Int) ∧ 0 ≤ q ∧ q < 4, ?_, ?_⟩
          · refine ⟨_, rfl, rfl, _, rfl, ?_⟩
            refine ite2 (fun _ => ⟨_, rfl, rfl, _, rfl, ?_⟩) (fun _ => iteF ⟨rfl, g, q, rfl, g0, g1, q0, q1⟩)
            refine ite2 (fun _ => ?_) (fun _ => ⟨rfl, g, q, rfl, g0, g1, q0, q1⟩)
            refine ⟨_, rfl, _, _, rfl, rfl, .inl ⟨_, rfl, _, rfl, _, _, rfl, rfl, (fun z => by omega), rfl, _, q, rfl, Int.fmod_nonneg_of_pos _ (by omega), Int.fmod_lt_of_pos _ (by omega), q0, q1⟩⟩
          · rintro σ H'' ⟨rfl, g, q, rfl, g0, g1, q0, q1⟩
            have ep9 := k79 _ _ np.1 np.2 ep
            have eR9 := k79 _ _ nR.1 nR.2 eR7
            refine ⟨_, rfl, .inl ⟨rfl, _, SqL.of ep9⟩, _, rfl, h, l, 12, rfl, S9, by decide, by decide, fun d HA bd SA kA => ⟨_, rfl, _, _, rfl, rfl, _, rfl, ?_⟩⟩
            have epA := kA _ _ np.1 np.2 ep9
            have eRA := kA _ _ nR.1 nR.2 eR9
            have kHA : Keep h l H HA := k7.trans (k79.trans kA)
            have hp0 : H p = none := k6.free np.1 np.2 hp
            have dRA : DpAll K HA vs (t.map rowD) := S7.keepDs (k79.trans kA) dR7 (noLs_map noL_row t)
            have drA : DpAll K HA rs (r.map stepD) := S7.keepDs (k79.trans kA) dr (noLs_map noL_step r)
            have lrs : rs.length = r.length := by rw [dps_len dr, List.length_map]
            refine ite2 (fun _ => ?_) (fun _ => ?_)
            · refine ⟨p, _, _, rfl, rfl, epA, small1000 (by omega), rs ++ [.non], r ++ [none], _, _, _, rfl, SA.upd np.1 np.2, kHA.upd hp0, ?_, ?_, upd_same, ?_, ?_, ?_⟩
              · rw [upd_ne Rp]; exact eRA
              · exact dps_upd epA dRA (noLs_map noL_row t)
              · rw [List.map_append]
                exact dps_snoc (dps_upd epA drA (noLs_map noL_step r)) .non
              · rw [List.length_append, List.length_singleton, rl]
              · intro n x hm
                rcases List.mem_append.mp hm with hm | hm
                · exact rg n x hm
                · simp at hm
            · refine ⟨_, rfl, _, rfl, by show 2 ≤ sizeLine; decide, fun T hT => ?_⟩
              have sT := same_new hT (HO.tup [V.int g, V.int q])
              have pT : p ≠ T := ne_of_none epA hT
              have epT : (upd HA T (.tup [.int g, .int q])) p = some (.lst rs) := by rw [upd_ne pT]; exact epA
              refine ⟨p, _, _, rfl, rfl, epT, small1000 (by omega), rs ++ [.ref T], r ++ [some (g.toNat, q.toNat)], _, _, _, rfl, (SA.same sT).upd np.1 np.2, (kHA.trans (.of sT)).upd hp0, ?_, ?_, upd_same, ?_, ?_, ?_⟩
              · rw [upd_ne Rp]; exact sT _ _ eRA
              · exact dps_upd epT (dps_same sT dRA) (noLs_map noL_row t)
              · rw [List.map_append]
                refine dps_snoc (dps_upd epT (dps_same sT drA) (noLs_map noL_step r)) ?_
                have z : SqT K (upd (upd HA T (.tup [.int g, .int q])) p (.lst (rs ++ [.ref T]))) T [.int g, .int q] := SqT.of (by rw [upd_ne pT.symm, upd_same])
                show Dp K _ _ (.tuple [.int ((g.toNat : Nat) : Int), .int ((q.toNat : Nat) : Int)])
                rw [Int.toNat_of_nonneg g0, Int.toNat_of_nonneg q0]
                exact .tup z (.cons (.int _) (.cons (.int _) .nil))
              · rw [List.length_append, List.length_singleton, rl]
              · intro n x hm
                rcases List.mem_append.mp hm with hm | hm
                · exact rg n x hm
                · simp at hm
                  omega
      · rintro σ H7 ⟨rs, r, w9, w10, w11, rfl, S7, k7, eR7, dR7, ep, dr, rl, rg⟩
        refine ⟨_, rfl, .inl ⟨rfl, _, SqL.of eR7⟩, _, rfl, p, _, rfl, .inl ⟨SqL.of ep, fun T hT => ?_⟩⟩
        have sT := same_new hT (HO.tup rs)
        have RT : R ≠ T := ne_of_none eR7 hT
        have eRT : (upd H7 T (.tup rs)) R = some (.lst vs) := by rw [upd_ne RT]; exact eR7
        have lvs : vs.length = t.length := by rw [dps_len dR7, List.length_map]
        have hR0 : H R = none := kk.free nR.1 nR.2 hR
        refine ⟨R, _, _, rfl, rfl, eRT, small1000 (by omega), vs ++ [.ref T], t ++ [r], _, _, _, _, _, rfl, (S7.same sT).upd nR.1 nR.2, (k7.trans (.of sT)).upd hR0, upd_same, ?_, ?_, ?_⟩
        · rw [List.map_append]
          refine dps_snoc (dps_upd eRT (dps_same sT dR7) (noLs_map noL_row t)) ?_
          exact .tup (SqT.of (by rw [upd_ne RT.symm, upd_same])) (dps_upd eRT (dps_same sT dr) (noLs_map noL_step r))
        · rw [List.length_append, List.length_singleton, tl]
        · intro r' hm
          rcases List.mem_append.mp hm with hm | hm
          · exact tg r' hm
          · rw [List.mem_singleton.mp hm]
            exact ⟨by omega, rg⟩
    · rintro σ H6 ⟨vs, t, u7, u8, u9, u10, u11, rfl, S6, k6, eR, dR, tl, tg⟩
      refine ⟨_, rfl, R, _, rfl, .inl ⟨SqL.of eR, fun T hT => ?_⟩⟩
      have sT := same_new hT (HO.tup vs)
      have tl' : t.length = 1 + n1 := by omega
      exact k (.ref T) t (2 + n2) _ ⟨by omega, by omega, by omega, fun r hm => (tg r hm).1, fun r hm n x hx => by rw [tl']; exact (tg r hm).2 n x hx⟩ (.tup (SqT.of upd_same) (dps_same sT dR)) (S6.same sT) (k6.trans (.of sT))
/-! ### _law_stands: some stands are drawn -/
def spStands (K : PySem.W.Frag) : Sp := fun vs H Q _ => ∃ (h l : Addr) (vt : V) (t : Tab) (m : Nat), vs = [.ref h, vt] ∧ Src H h l ∧ Good t m ∧ Dp K H vt (tabD t) ∧
  ∀ (v : V) (S : List Nat) (H' : Hp), Stands t.length S → Dp K H' v (lettersD S) → Src H' h l → Keep h l H H' → Q v H'
theorem ok_law_stands {f : Addr} {fd : FuncData} (F : Fun K "_law_stands" "_law_stands" s__law_stands f fd) (B : Blt mg) (G__law_next : DefK P w K mg base CX0 1 "_law_next" P__law_next spNext) : FnOk P w K mg base CX0 2 f fd P__law_stands (spStands K) := by
  refine F.ok sc__law_stands (fun vs H Q E h => ?_) (fun cdv A outer s H vs Q E hr h => ?_)
  · obtain ⟨h, l, vt, t, m, rfl, _⟩ := h
    rfl
  · obtain ⟨h, l, vt, t, m, rfl, S0, g, dt, k⟩ := h
    refine ⟨_, (pss_cons (ps_setLc (i := 2) (own := ([("_law_stand", 3)] : List (Str × Nat))) (g := gName 3) rfl sc__law_stands.nd rfl rfl (sw_true rfl rfl rfl (by decide +kernel)) (pi_range1 (by rfl) B.n_range (pa_cons (pe_callB (k_len K) (by rfl) B.n_len boot_len (pa_cons (pv 1) pa_nil)) pa_nil)) (blkOk_by (own := ([("_law_stand", 3)] : List (Str × Nat))) (N := N__law_stands) (sc := defScope s__law_stands) (by decide +kernel)) (fun _ _ _ _ _ => by exact (pg_name (i := 3) sc__law_stands.nd rfl (Or.inl rfl))) (fun _ _ _ _ _ => by exact (pts_one (pt_cmpR op_gt (pe_def G__law_next (hr.mono (by omega)) (by rfl) (pa_cons (pv 0) (pa_cons pe_int pa_nil))) pe_int (nomark _)))) (fun _ _ _ _ _ => by exact (pv 3)))
 (pss_one (ps_ret (pe_ifExp (pt_cmpR (k_neD K hr.units) (pv 2) (pe_lst pa_nil) (nomark _)) (pe_callTy (k_tupOf K) (by rfl) B.n_tuple (by decide +kernel) (pa_cons (pv 2) pa_nil)) (pe_tup (pa_cons (pe_def G__law_next (hr.mono (by omega)) (by rfl) (pa_cons (pv 0) (pa_cons (pe_callB (k_len K) (by rfl) B.n_len boot_len (pa_cons (pv 1) pa_nil)) pa_nil))) pa_nil)))))), ?_⟩
    obtain ⟨ta, txs, rfl, sx, lx⟩ := tab_len dt
    have g6 := g.hi
    have g1 := g.lo
    refine ⟨_, rfl, ta, txs, rfl, .inr sx, _, rfl, by omega, by omega, fun D hD => lc_range (lo := 0) (n := ((txs.length : Nat) : Int).toNat) (fun i H' => ∃ (S : List Nat), Src H' h l ∧ Keep h l H H' ∧ H' D = some (.lst ((S.map fun (c : Nat) => (c : Int)).map V.int)) ∧ S.Pairwise (· < ·) ∧ (∀ s ∈ S, s < i) ∧ S.length ≤ i) ⟨[], S0.same (same_new hD _), .of (same_new hD _), upd_same, .nil, (fun _ z => nomatch z), Nat.le_refl _⟩ ?_ ?_⟩
    · rintro i H1 hi ⟨S, S1, k1, eD, pw, lt, lS⟩
      have nD := S0.neN hD
      refine ⟨rfl, ?_⟩
      refine ⟨_, rfl, h, l, 4, rfl, S1, by decide, by decide, fun n H2 hn S2 k2 => ⟨_, _, rfl, rfl, _, rfl, ?_⟩⟩
      have eD2 := k2 _ _ nD.1 nD.2 eD
      by_cases c : (n : Int) > 0
      · rw [decide_eq_true c]
        refine ⟨_, rfl, _, eD2, small_of (by rw [List.length_map, List.length_map]; omega), S ++ [i], S2.upd nD.1 nD.2, (k1.trans k2).upd hD, ?_, ?_, ?_, by rw [List.length_append]; show S.length + 1 ≤ i + 1; omega⟩
        · rw [upd_same, List.map_append, List.map_append, Int.zero_add]
          rfl
        · rw [List.pairwise_append]
          refine ⟨pw, List.pairwise_singleton _ _, fun x hx y hy => ?_⟩
          rw [List.mem_singleton.mp hy]
          exact lt x hx
        · intro x hx
          rcases List.mem_append.mp hx with hx | hx
          · have := lt x hx
            omega
          · rw [List.mem_singleton.mp hx]
            omega
      · rw [decide_eq_false c]
        exact ⟨S, S2, k1.trans k2, eD2, pw, fun x hx => by have := lt x hx; omega, by omega⟩
    · rintro H1 ⟨S, S1, k1, eD, pw, lt, lS⟩
      have nD := S0.neN hD
      refine ⟨_, rfl, by show 0 ≤ sizeLine; decide, fun q hq => ⟨_, _, dp_lettersL (SqL.of (same_new hq _ _ _ eD)), .lst (SqL.of upd_same) .nil, shaped_ints S, shaped_nil, ?_⟩⟩
      have sq := same_new hq (HO.lst [])
      by_cases e0 : S = []
      · subst e0
        refine ⟨_, rfl, ?_⟩
        refine iteF ⟨_, rfl, _, rfl, ta, txs, rfl, .inr (seqT sq (S0.keepT k1 sx)), h, l, (txs.length : Int), rfl, S1.same sq, by omega, by omega, fun n H3 hn S3 k3 => ⟨by show 1 ≤ sizeLine; decide, fun T hT => ?_⟩⟩
        have sT := same_new hT (HO.tup [V.int (n : Nat)])
        refine k _ [n] _ ⟨by simp, fun s hs => ?_, List.pairwise_singleton _ _⟩ (dp_lettersT (SqT.of upd_same)) (S3.same sT) (k1.trans ((Keep.of sq).trans (k3.trans (.of sT))))
        rw [List.mem_singleton.mp hs]
        omega
      · rw [eqv_nil (by simpa using e0)]
        refine ⟨_, rfl, ?_⟩
        refine iteT ⟨_, rfl, D, _, rfl, .inl ⟨SqL.of (sq _ _ eD), fun T hT => ?_⟩⟩
        have sT := sq.trans (same_new hT (HO.tup ((S.map fun (c : Nat) => (c : Int)).map V.int)))
        exact k _ S _ ⟨e0, fun s hs => by have := lt s hs; omega, pw⟩ (dp_lettersT (SqT.of upd_same)) (S1.same sT) (k1.trans (.of sT))
/-! ### _law_row: a row is drawn -/
def spLRow (K : PySem.W.Frag) : Sp := fun vs H Q _ => ∃ (h l : Addr) (vt : V) (t : Tab) (m n : Nat), vs = [.ref h, vt, .int (n : Nat)] ∧ Src H h l ∧ Good t m ∧ Dp K H vt (tabD t) ∧ n ≤ 1000 ∧
  ∀ (v : V) (r : List Nat) (H' : Hp), Dp K H' v (lettersD r) → r.length = n → (∀ c ∈ r, c < m) → Src H' h l → Keep h l H H' → Q v H'
theorem ok_law_row {f : Addr} {fd : FuncData} (F : Fun K "_law_row" "_law_row" s__law_row f fd) (B : Blt mg) (G__law_next : DefK P w K mg base CX0 1 "_law_next" P__law_next spNext) : FnOk P w K mg base CX0 2 f fd P__law_row (spLRow K) := by
  refine F.ok sc__law_row (fun vs H Q E h => ?_) (fun cdv A outer s H vs Q E hr h => ?_)
  · obtain ⟨h, l, vt, t, m, n, rfl, _⟩ := h
    rfl
  · obtain ⟨h, l, vt, t, m, n, rfl, S, g, dt, hn, k⟩ := h
    refine ⟨_, (pss_one (ps_ret (pe_callTy (k_tupOf K) (by rfl) B.n_tuple (by decide +kernel) (pa_cons (pe_lc (own := ([("_law_k", 3)] : List (Str × Nat))) (g := gName 3) (tt := tYes) rfl sc__law_row.nd (pi_range1 (by rfl) B.n_range (pa_cons (pv 2) pa_nil)) (blkOk_by (own := ([("_law_k", 3)] : List (Str × Nat))) (N := N__law_row) (sc := defScope s__law_row) (by decide +kernel)) (fun _ _ _ _ _ => by exact (pg_name (i := 3) sc__law_row.nd rfl (Or.inl rfl))) (fun _ _ _ _ _ => by exact pts_nil) (fun _ _ _ _ _ => by exact (pe_def G__law_next (hr.mono (by omega)) (by rfl) (pa_cons (pv 0) (pa_cons (pe_callB (k_len K) (by rfl) B.n_len boot_len (pa_cons (pe_ix (k_ixT K) (pv 1) pe_int (fun _ _ => rfl)) pa_nil)) pa_nil))))) pa_nil)))), ?_⟩
    obtain ⟨a, xs, b, ys, z, rfl, h1, lx, e1, h2, ly, _⟩ := tab_at (n := 0) (c := 0) g dt g.lo (by rcases g.lets with e | e <;> omega)
    have m0 : 0 < m := by rcases g.lets with e | e <;> omega
    have m3 : m ≤ 3 := by rcases g.lets with e | e <;> omega
    refine ⟨_, rfl, _, rfl, by omega, by omega, fun D hD => lc_range (lo := 0) (n := ((n : Nat) : Int).toNat) (fun i H' => ∃ (r : List Nat), Src H' h l ∧ Keep h l H H' ∧ H' D = some (.lst ((r.map fun (c : Nat) => (c : Int)).map V.int)) ∧ r.length = i ∧ ∀ c ∈ r, c < m) ⟨[], S.same (same_new hD _), .of (same_new hD _), upd_same, rfl, fun _ z => nomatch z⟩ ?_ ?_⟩
    · rintro i H1 hi ⟨r, S1, k1, eD, lr, cr⟩
      have nD := S.neN hD
      refine ⟨rfl, ?_⟩
      refine ⟨_, rfl, _, rfl, a, xs, _, _, rfl, rfl, S.keepT k1 h1, e1, b, ys, rfl, .inr (S.keepT k1 h2), h, l, (ys.length : Int), rfl, S1, by omega, by omega, fun c H2 hc S2 k2 => ?_⟩
      refine ⟨_, k2 _ _ nD.1 nD.2 eD, small1000 (by rw [List.length_map, List.length_map]; omega), r ++ [c], S2.upd nD.1 nD.2, (k1.trans k2).upd hD, ?_, by rw [List.length_append, lr]; rfl, fun x hx => ?_⟩
      · rw [upd_same, List.map_append, List.map_append]
        rfl
      · rcases List.mem_append.mp hx with hx | hx
        · exact cr x hx
        · rw [List.mem_singleton.mp hx]
          omega
    · rintro H1 ⟨r, S1, k1, eD, lr, cr⟩
      refine ⟨D, _, rfl, .inl ⟨SqL.of eD, fun T hT => ?_⟩⟩
      refine k _ r _ (.tup (SqT.of upd_same) ?_) (by omega) cr (S1.same (same_new hT _)) (k1.trans (.of (same_new hT _)))
      have z := dps_ints (K := K) (H := upd H1 T (.tup ((r.map fun (c : Nat) => (c : Int)).map V.int))) (r.map fun (c : Nat) => (c : Int))
      rw [List.map_map (g := PyData.int)] at z
      exact z
/-! ### _law_walk: where a row leads, by the law -/
def spLWalk (K : PySem.W.Frag) : Sp := fun vs H Q _ => ∃ (vt vr : V) (t : Tab) (m n : Nat) (r : List Nat), vs = [vt, .int (n : Nat), vr] ∧ Good t m ∧ Dp K H vt (tabD t) ∧ n < t.length ∧ Dp K H vr (lettersD r) ∧ (∀ c ∈ r, c < m) ∧ r.length ≤ 10000 ∧
  ∀ (v : V) (H' : Hp), Same H H' → Dp K H' v (walkD (walkF t n r)) → Q v H'
theorem ok_law_walk {f : Addr} {fd : FuncData} (F : Fun K "_law_walk" "_law_walk" s__law_walk f fd) (B : Blt mg) : FnOk P w K mg base CX0 1 f fd P__law_walk (spLWalk K) := by
  refine F.ok sc__law_walk (fun vs H Q E h => ?_) (fun cdv A outer s H vs Q E hr h => ?_)
  · obtain ⟨vt, vr, t, m, n, r, rfl, _⟩ := h
    rfl
  · obtain ⟨vt, vr, t, m, n, r, rfl, g, dt, hn, dr, hc, hl, k⟩ := h
    refine ⟨_, (pss_cons (ps_par (i := 3) (j := 4) rfl sc__law_walk.nd rfl rfl (by decide) rfl rfl (pa_cons (pv 1) (pa_cons (pe_tup pa_nil) pa_nil)) rfl)
 (pss_cons (ps_for PassesOwn.never rfl (k_pit K (pv 2)) (pg_name (i := 5) sc__law_walk.nd rfl (Or.inl rfl))
 (pss_cons (ps_set (i := 6) sc__law_walk.nd rfl (Or.inl rfl) (pe_ix (k_ixT K) (pe_ix (k_ixT K) (pv 0) (pv 3) (fun _ _ => rfl)) (pv 5) (fun _ _ => rfl)))
 (pss_cons (ps_if (pt_cmpR op_isN (pv 6) pe_non (nomark _)) (pss_one (ps_ret pe_non)) pss_nil)
 (pss_one (ps_par (i := 3) (j := 4) rfl sc__law_walk.nd rfl rfl (by decide) rfl rfl (pa_cons (pe_ix (k_ixT K) (pv 6) pe_int (fun _ _ => rfl)) (pa_cons (pe_op (k_catT K) (pv 4) (pe_tup (pa_cons (pe_ix (k_ixT K) (pv 6) pe_int (fun _ _ => rfl)) pa_nil))) pa_nil)) rfl)))))
 (pss_one (ps_ret (pe_tup (pa_cons (pv 3) (pa_cons (pv 4) pa_nil))))))), ?_⟩
    obtain ⟨ra, rxs, rfl, sr, ar⟩ := dp_tup (show Dp K H vr (.tuple (r.map fun (c : Nat) => PyData.int (c : Int))) from dr)
    have er : rxs = (r.map fun (c : Nat) => (c : Int)).map V.int := dps_intsV (by rw [List.map_map]; exact ar)
    subst er
    have lr : ((r.map fun (c : Nat) => (c : Int)).map V.int).length = r.length := by rw [List.length_map, List.length_map]
    refine ⟨_, rfl, by show 0 ≤ sizeLine; decide, fun p hp => ⟨_, _, rfl, ?_⟩⟩
    have s1 := same_new hp (HO.tup [])
    refine ⟨_, rfl, ra, rfl, ⟨_, seqT s1 sr⟩, for_tup (K := K) (a := ra) (xs := (r.map fun (c : Nat) => (c : Int)).map V.int) (fun i σ H' => ∃ (q : Nat) (ws : List Nat) (sa : Addr) (u5 u6 : Option V), Same H H' ∧ walkF t n (r.take i) = some (q, ws) ∧ q < t.length ∧
      σ = [some vt, some (.int (n : Nat)), some (.ref ra), some (.int (q : Nat)), some (.ref sa), u5, u6] ∧ SqT K H' sa ((ws.map fun (c : Nat) => (c : Int)).map V.int) ∧ ws.length = i)
      ⟨n, [], p, none, none, s1, rfl, hn, rfl, SqT.of upd_same, rfl⟩ (fun i σ H' _ ⟨_, _, _, _, _, e, _⟩ => seqT e sr) ?_ ?_⟩
    · rintro i x σ H' hi ⟨q, ws, sa, u5, u6, e, hw, hq, rfl, hs, lw⟩
      rw [List.getElem?_map, List.getElem?_map] at hi
      obtain ⟨c, hci, rfl⟩ : ∃ c : Nat, r[i]? = some c ∧ x = .int (c : Nat) := by
        cases z : r[i]? with
        | none => rw [z] at hi; cases hi
        | some c => rw [z] at hi; exact ⟨c, rfl, (Option.some.inj hi).symm⟩
      have hcm := hc c (List.mem_of_getElem? hci)
      obtain ⟨a, xs, b, ys, z, rfl, h1, _, e1, h2, _, e2, dz⟩ := tab_at g (dp_same e dt) hq hcm
      have il : i < r.length := (List.getElem?_eq_some_iff.mp hci).1
      have more : walkF t n (r.take (i + 1)) = (stepAt t q c).map fun y => (y.1, ws ++ [y.2]) := by
        rw [take_more hci, walk_some t _ _ _ _ _ hw, walk_one]
        cases stepAt t q c with
        | none => rfl
        | some y => rfl
      refine ⟨_, rfl, _, rfl, a, xs, _, _, rfl, rfl, h1, e1, _, rfl, b, ys, _, z, rfl, rfl, h2, e2, _, rfl, rfl, _, rfl, ?_⟩
      cases es : stepAt t q c with
      | none =>
        rw [es] at dz more
        rw [dp_non dz]
        refine iteT ?_
        have full : walkF t n r = none := by
          have z := walk_none t _ (r.drop (i + 1)) n more
          rw [List.take_append_drop] at z
          exact z
        exact k .non H' e (by rw [full]; exact .non)
      | some y =>
        obtain ⟨q', o⟩ := y
        rw [es] at dz more
        obtain ⟨ya, yxs, rfl, y1, y2, y3, _⟩ := step_at dz
        refine iteF ?_
        have gd := stepAt_good g es
        refine ⟨_, rfl, ya, yxs, _, _, rfl, rfl, y1, y2, _, rfl, _, rfl, ya, yxs, _, _, rfl, rfl, y1, y3, by show 1 ≤ sizeLine; decide, fun T hT => ?_⟩
        refine catA_ok (seqT (same_new hT _) hs) (SqT.of upd_same) (by rw [List.length_map, List.length_map]; exact Nat.le_of_lt (by rw [sizeLine_eq]; show ws.length + 1 < _; omega)) (fun na H2 s2 hs2 => ?_)
        refine ⟨_, _, rfl, q', ws ++ [o], na, _, _, e.trans ((same_new hT _).trans s2), more, gd.1, rfl, ?_, by rw [List.length_append, lw]; rfl⟩
        rw [List.map_append, List.map_append]
        exact hs2
    · rintro σ H' ⟨q, ws, sa, u5, u6, e, hw, hq, rfl, hs, lw⟩
      refine ⟨_, rfl, _, rfl, by show 2 ≤ sizeLine; decide, fun T hT => ?_⟩
      rw [lr, List.take_length] at hw
      refine k _ _ (e.trans (same_new hT _)) ?_
      rw [hw]
      refine .tup (SqT.of upd_same) (.cons (.int _) (.cons (.tup (seqT (same_new hT _) hs) ?_) .nil))
      have z := dps_ints (K := K) (H := upd H' T (.tup [.int (q : Nat), .ref sa])) (ws.map fun (c : Nat) => (c : Int))
      rw [List.map_map] at z
      rw [List.map_map] at z
      rw [List.map_map]
      exact z
/-! ### _law_alike: equal data are alike -/
/-- with n calls -/
def spAlike (K : PySem.W.Frag) : Nat → Sp
  | 0 => fun _ _ _ _ => False
  | n + 1 => fun vs H Q _ => ∃ (u v : V) (d : PyData), vs = [u, v] ∧ Dp K H u d ∧ Dp K H v d ∧ okD n d = true ∧ ∀ H', Same H H' → Q (.bl true) H'
theorem ok_law_alike {f : Addr} {fd : FuncData} (F : Fun K "_law_alike" "_law_alike" s__law_alike f fd) (B : Blt mg) (hm : mg "_law_alike" = some (.ref f)) (hb : Binds K fd P__law_alike []) : ∀ n : Nat, FnOk P w K mg base CX0 n f fd P__law_alike (spAlike K n)
  | 0 => ⟨fun _ _ _ _ h => h.elim, fun _ _ _ _ _ _ _ _ _ _ _ _ _ h => h.elim⟩
  | n + 1 => by
    have G__law_alike : DefK P w K mg base CX0 n "_law_alike" P__law_alike (spAlike K n) := ⟨f, fd, ok_law_alike F B hm hb n, hm, F.kp, hb⟩
    refine F.ok sc__law_alike (fun vs H Q E h => ?_) (fun cdv A outer s H vs Q E hr h => ?_)
    · obtain ⟨u, v, d, rfl, _⟩ := h
      rfl
    · obtain ⟨u, v, d, rfl, du, dv, ok, k⟩ := h
      refine ⟨_, (pss_cons (ps_if (pt_val (pe_callB (k_isiT K) (by rfl) B.n_isinstance (by decide +kernel) (pa_cons (pv 1) (pa_cons (pe_tup (pa_cons (pe_bltn (v := .ty "tuple") (u := .type "tuple") (by rfl) B.n_tuple (by decide +kernel) rfl) (pa_cons (pe_bltn (v := .ty "list") (u := .type "list") (by rfl) B.n_list (by decide +kernel) rfl) pa_nil))) pa_nil)))) (pss_cons (ps_if (PW.pt (pw_or (pt_not (pt_val (pe_callB (k_isiT K) (by rfl) B.n_isinstance (by decide +kernel) (pa_cons (pv 0) (pa_cons (pe_tup (pa_cons (pe_bltn (v := .ty "tuple") (u := .type "tuple") (by rfl) B.n_tuple (by decide +kernel) rfl) (pa_cons (pe_bltn (v := .ty "list") (u := .type "list") (by rfl) B.n_list (by decide +kernel) rfl) pa_nil))) pa_nil))))) (pw_or1 (pt_cmpR op_ne (pe_callB (k_isi K) (by rfl) B.n_isinstance (by decide +kernel) (pa_cons (pv 0) (pa_cons (pe_bltn (v := .ty "list") (u := .type "list") (by rfl) B.n_list (by decide +kernel) rfl) pa_nil))) (pe_callB (k_isi K) (by rfl) B.n_isinstance (by decide +kernel) (pa_cons (pv 1) (pa_cons (pe_bltn (v := .ty "list") (u := .type "list") (by rfl) B.n_list (by decide +kernel) rfl) pa_nil))) (nomark _))))) (pss_one (ps_ret pe_bl)) pss_nil)
 (pss_cons (ps_if (pt_cmpR op_ne (pe_callB (k_len K) (by rfl) B.n_len boot_len (pa_cons (pv 0) pa_nil)) (pe_callB (k_len K) (by rfl) B.n_len boot_len (pa_cons (pv 1) pa_nil)) (nomark _)) (pss_one (ps_ret pe_bl)) pss_nil)
 (pss_one (ps_ret (pe_cmpR (k_eqD K hr.units) (pe_lc (own := ([("_law_k", 2)] : List (Str × Nat))) (g := gName 2) rfl sc__law_alike.nd (pi_range1 (by rfl) B.n_range (pa_cons (pe_callB (k_len K) (by rfl) B.n_len boot_len (pa_cons (pv 1) pa_nil)) pa_nil)) (blkOk_by (own := ([("_law_k", 2)] : List (Str × Nat))) (N := N__law_alike) (sc := defScope s__law_alike) (by decide +kernel)) (fun _ _ _ _ _ => by exact (pg_name (i := 2) sc__law_alike.nd rfl (Or.inl rfl))) (fun _ _ _ _ _ => by exact (pts_one (pt_not (pt_val (pe_def G__law_alike (hr.mono (by omega)) (by rfl) (pa_cons (pe_ix (k_ixQ K) (pv 0) (pv 2) (fun _ _ => rfl)) (pa_cons (pe_ix (k_ixQ K) (pv 1) (pv 2) (fun _ _ => rfl)) pa_nil))))))) (fun _ _ _ _ _ => by exact (pv 2))) (pe_lst pa_nil) (nomark _)))))) pss_nil)
 (pss_cons (ps_if (PW.pt (pw_or (pt_cmpR op_isN (pv 1) pe_non (nomark _)) (pw_or1 (pt_val (pe_callB (k_isi K) (by rfl) B.n_isinstance (by decide +kernel) (pa_cons (pv 1) (pa_cons (pe_bltn (v := .ty "str") (u := .type "str") (by rfl) B.n_str (by decide +kernel) rfl) pa_nil))))))) (pss_one (ps_ret (pe_and (pe_cmpR (k_eqD K hr.units) (pv 0) (pv 1) (nomark _)) (pe_one (pe_cmpR op_eq (pe_callB (k_isi K) (by rfl) B.n_isinstance (by decide +kernel) (pa_cons (pv 0) (pa_cons (pe_bltn (v := .ty "str") (u := .type "str") (by rfl) B.n_str (by decide +kernel) rfl) pa_nil))) (pe_callB (k_isi K) (by rfl) B.n_isinstance (by decide +kernel) (pa_cons (pv 1) (pa_cons (pe_bltn (v := .ty "str") (u := .type "str") (by rfl) B.n_str (by decide +kernel) rfl) pa_nil))) (nomark _)))))) pss_nil)
 (pss_one (ps_ret (pe_and (pe_callB (k_isi K) (by rfl) B.n_isinstance (by decide +kernel) (pa_cons (pv 0) (pa_cons (pe_bltn (v := .ty "int") (u := .type "int") (by rfl) B.n_int (by decide +kernel) rfl) pa_nil))) (pe_and (pe_cmpR op_eq (pe_callB (k_isi K) (by rfl) B.n_isinstance (by decide +kernel) (pa_cons (pv 0) (pa_cons (pe_bltn (v := .ty "bool") (u := .type "bool") (by rfl) B.n_bool (by decide +kernel) rfl) pa_nil))) (pe_callB (k_isi K) (by rfl) B.n_isinstance (by decide +kernel) (pa_cons (pv 1) (pa_cons (pe_bltn (v := .ty "bool") (u := .type "bool") (by rfl) B.n_bool (by decide +kernel) rfl) pa_nil))) (nomark _)) (pe_one (pe_cmpR (k_eqD K hr.units) (pv 0) (pv 1) (nomark _))))))))), ?_⟩
      have tu := dp_ty du
      have tv := dp_ty dv
      obtain ⟨bt, bl, e1, e2, h1, h2⟩ : ∃ bt bl : Bool, kitB (tyD d) "tuple" = some bt ∧ kitB (tyD d) "list" = some bl ∧
          ((bt || bl) = true → ∃ (j : Nat) (ds : List PyData) (a b : Addr) (xs ys : List V), n = j + 1 ∧ u = .ref a ∧ v = .ref b ∧ ((SqL K H a xs ∧ SqL K H b ys) ∨ (SqT K H a xs ∧ SqT K H b ys)) ∧ DpAll K H xs ds ∧ DpAll K H ys ds ∧ ds.length ≤ 1000000 ∧ ∀ d ∈ ds, okD j d = true) ∧
          ((bt || bl) = false → SeqAt.shaped d = true ∧ ∃ b3 b4 b5 : Bool, kitB (tyD d) "str" = some b3 ∧ kitB (tyD d) "int" = some b4 ∧ kitB (tyD d) "bool" = some b5 ∧ ((decide (v = V.non) || b3) = false → b4 = true)) := by
        cases du with
        | non =>
          cases dv
          exact ⟨false, false, (show kitB "NoneType" "tuple" = some false by decide +kernel), (show kitB "NoneType" "list" = some false by decide +kernel), fun z => (nomatch z), fun _ => ⟨rfl, false, false, false, (show kitB "NoneType" "str" = some false by decide +kernel), (show kitB "NoneType" "int" = some false by decide +kernel), (show kitB "NoneType" "bool" = some false by decide +kernel), fun z => by simp at z⟩⟩
        | bl b => exact ⟨false, false, (show kitB "bool" "tuple" = some false by decide +kernel), (show kitB "bool" "list" = some false by decide +kernel), fun z => (nomatch z), fun _ => ⟨rfl, false, true, true, (show kitB "bool" "str" = some false by decide +kernel), (show kitB "bool" "int" = some true by decide +kernel), (show kitB "bool" "bool" = some true by decide +kernel), fun _ => rfl⟩⟩
        | int b => exact ⟨false, false, (show kitB "int" "tuple" = some false by decide +kernel), (show kitB "int" "list" = some false by decide +kernel), fun z => (nomatch z), fun _ => ⟨rfl, false, true, false, (show kitB "int" "str" = some false by decide +kernel), (show kitB "int" "int" = some true by decide +kernel), (show kitB "int" "bool" = some false by decide +kernel), fun _ => rfl⟩⟩
        | str b => exact ⟨false, false, (show kitB "str" "tuple" = some false by decide +kernel), (show kitB "str" "list" = some false by decide +kernel), fun z => (nomatch z), fun _ => ⟨by
            have z := okD_can n _ ok
            unfold SeqAt.shaped
            rw [z]
            rfl, true, false, false, (show kitB "str" "str" = some true by decide +kernel), (show kitB "str" "int" = some false by decide +kernel), (show kitB "str" "bool" = some false by decide +kernel), fun z => by simp at z⟩⟩
        | lst s1 a1 =>
          obtain ⟨b, ys, rfl, s2, a2⟩ := dp_lst dv
          cases n with
          | zero => simp [okD] at ok
          | succ j =>
            simp only [okD, Bool.and_eq_true, decide_eq_true_eq, List.all_eq_true] at ok
            exact ⟨false, true, (show kitB "list" "tuple" = some false by decide +kernel), (show kitB "list" "list" = some true by decide +kernel), fun _ => ⟨j, _, _, b, _, ys, rfl, rfl, rfl, .inl ⟨s1, s2⟩, a1, a2, ok.1, ok.2⟩, fun z => (nomatch z)⟩
        | tup s1 a1 =>
          obtain ⟨b, ys, rfl, s2, a2⟩ := dp_tup dv
          cases n with
          | zero => simp [okD] at ok
          | succ j =>
            simp only [okD, Bool.and_eq_true, decide_eq_true_eq, List.all_eq_true] at ok
            exact ⟨true, false, (show kitB "tuple" "tuple" = some true by decide +kernel), (show kitB "tuple" "list" = some false by decide +kernel), fun _ => ⟨j, _, _, b, _, ys, rfl, rfl, rfl, .inr ⟨s1, s2⟩, a1, a2, ok.1, ok.2⟩, fun z => (nomatch z)⟩
      -- isinstance(due, (tuple, list))
      refine ⟨_, rfl, by show 2 ≤ sizeLine; decide, fun p hp => ⟨v, p, _, _, _, bt || bl, rfl, upd_same, .cons (.ty _) (.cons (.ty _) .nil), (tv.same (same_new hp _)).ty, kit2 e1 e2, _, rfl, ?_⟩⟩
      have sp := same_new hp (HO.tup [V.ty "tuple", V.ty "list"])
      cases eb : (bt || bl) with
      | true =>
        obtain ⟨j, ds, a, b, xs, ys, rfl, rfl, rfl, hs, a1, a2, hl, hd⟩ := h1 eb
        have lx := dps_len a1
        have ly := dps_len a2
        refine ⟨_, rfl, by show 2 ≤ sizeLine; decide, fun p2 hp2 => ⟨.ref a, p2, _, _, _, bt || bl, rfl, upd_same, .cons (.ty _) (.cons (.ty _) .nil), ((tu.same sp).same (same_new hp2 _)).ty, kit2 e1 e2, _, rfl, ?_⟩⟩
        rw [eb]
        have s2 := sp.trans (same_new hp2 (HO.tup [V.ty "tuple", V.ty "list"]))
        revert s2
        generalize upd (upd H p (.tup [V.ty "tuple", V.ty "list"])) p2 (.tup [V.ty "tuple", V.ty "list"]) = H2
        intro s2
        have hx : SqL K H2 a xs ∨ SqT K H2 a xs := hs.elim (fun z => .inl (s2.seq z.1)) fun z => .inr (seqT s2 z.1)
        have hy : SqL K H2 b ys ∨ SqT K H2 b ys := hs.elim (fun z => .inl (s2.seq z.2)) fun z => .inr (seqT s2 z.2)
        refine ⟨_, rfl, _, _, _, _, bl, rfl, .ty _, (tu.same s2).ty, kit_any e2, _, rfl, _, _, _, _, bl, rfl, .ty _, (tv.same s2).ty, kit_any e2, by cases bl <;> rfl, !decide (V.bl bl = V.bl bl), rfl, ?_⟩
        rw [decide_eq_true rfl]
        refine ⟨_, rfl, a, xs, rfl, hx, _, rfl, b, ys, rfl, hy, rfl, !decide (V.int (xs.length : Nat) = V.int (ys.length : Nat)), rfl, ?_⟩
        rw [decide_eq_true (by rw [lx, ly])]
        refine ⟨_, rfl, b, ys, rfl, hy, _, rfl, by omega, by omega, fun D hD => lc_range (lo := 0) (n := ((ys.length : Nat) : Int).toNat) (fun i H' => Same H2 H' ∧ H' D = some (.lst [])) ⟨same_new hD _, upd_same⟩ ?_ ?_⟩
        · rintro i H3 hi ⟨s3, eD⟩
          have ix : i < xs.length := by omega
          have iy : i < ys.length := by omega
          obtain ⟨x, qx⟩ : ∃ x, xs[i]? = some x := ⟨_, List.getElem?_eq_getElem ix⟩
          obtain ⟨y, qy⟩ : ∃ y, ys[i]? = some y := ⟨_, List.getElem?_eq_getElem iy⟩
          obtain ⟨dd, qd, dx⟩ := dps_getV (dps_same (s2.trans s3) a1) qx
          obtain ⟨dd', qd', dy⟩ := dps_getV (dps_same (s2.trans s3) a2) qy
          have ed : dd = dd' := Option.some.inj (qd.symm.trans qd')
          subst ed
          have ix' : atI xs (0 + (i : Int)) = some x := by rw [Int.zero_add]; exact atI_nat qx
          have iy' : atI ys (0 + (i : Int)) = some y := by rw [Int.zero_add]; exact atI_nat qy
          refine ⟨rfl, ?_⟩
          have s23 := s2.trans s3
          refine ⟨_, rfl, _, rfl, ixQ_ok (seqQ s3 hx) ix' ⟨_, rfl, _, rfl, ixQ_ok (seqQ s3 hy) iy' ⟨x, y, dd, rfl, dx, dy, hd dd (List.mem_of_getElem? qd), fun H4 s4 => ⟨_, rfl, s3.trans s4, s4 _ _ eD⟩⟩⟩⟩
        · rintro H3 ⟨s3, eD⟩
          refine ⟨by show 0 ≤ sizeLine; decide, fun q hq => ⟨.list [], .list [], .lst (SqL.of (same_new hq _ _ _ eD)) .nil, .lst (SqL.of upd_same) .nil, rfl, rfl, k _ (s2.trans (s3.trans (same_new hq _)))⟩⟩
      | false =>
        obtain ⟨sh, b3, b4, b5, e3, e4, e5, alt⟩ := h2 eb
        have eqv : PyData.eqv d d = true := SeqAt.eqv_refl d (okD_can n d ok)
        have su := tu.same sp
        have sv := tv.same sp
        have dus := dp_same sp du
        have dvs := dp_same sp dv
        have fin : ∀ H', H' = upd H p (.tup [V.ty "tuple", V.ty "list"]) → Q (.bl true) H' := fun H' e => e ▸ k _ sp
        refine ⟨_, rfl, rfl, _, rfl, ?_⟩
        have way1 : ∀ (tt : TS) (D : Ends), tt = tt := fun _ _ => rfl
        by_cases hv : v = .non
        · subst hv
          cases dv
          cases du
          rw [decide_eq_true rfl]
          exact ⟨_, rfl, _, rfl, .none, .none, .non, .non, rfl, rfl, _, rfl, _, rfl, _, _, _, _, false, rfl, .ty _, (AnyV.non).ty, kit_any (show kitB "NoneType" "str" = some false by decide +kernel), _, rfl, _, _, _, _, false, rfl, .ty _, (AnyV.non).ty, kit_any (show kitB "NoneType" "str" = some false by decide +kernel), rfl, fin _ rfl⟩
        · rw [decide_eq_false hv]
          refine ⟨_, rfl, _, _, _, _, b3, rfl, .ty _, sv.ty, kit_any e3, _, rfl, ?_⟩
          cases b3 with
          | true =>
            refine ⟨_, rfl, _, rfl, d, d, dus, dvs, sh, sh, _, rfl, ?_⟩
            rw [eqv]
            refine ⟨_, rfl, _, _, _, _, true, rfl, .ty _, su.ty, kit_any e3, _, rfl, _, _, _, _, true, rfl, .ty _, sv.ty, kit_any e3, rfl, fin _ rfl⟩
          | false =>
            have e4' := alt (by rw [decide_eq_false hv]; rfl)
            subst e4'
            refine ⟨_, rfl, _, _, _, _, true, rfl, .ty _, su.ty, kit_any e4, _, rfl, ?_⟩
            refine ⟨_, rfl, _, _, _, _, b5, rfl, .ty _, su.ty, kit_any e5, _, rfl, _, _, _, _, b5, rfl, .ty _, sv.ty, kit_any e5, by cases b5 <;> rfl, _, rfl, ?_⟩
            rw [decide_eq_true rfl]
            refine ⟨_, rfl, _, rfl, d, d, dus, dvs, sh, sh, ?_⟩
            rw [eqv]
            exact fin _ rfl
/-! ### _law_reached -/
def spReached (K : PySem.W.Frag) : Sp := fun vs H Q _ => ∃ (vt vS vr : V) (t : Tab) (m : Nat) (S r : List Nat) (aim : String), vs = [vt, vS, .str (Str.ofString aim), vr] ∧ Good t m ∧ Dp K H vt (tabD t) ∧ Dp K H vS (lettersD S) ∧ Stands t.length S ∧ aim ∈ aims3 ∧ Dp K H vr (lettersD r) ∧ r.length ≤ 10000 ∧ (∀ c ∈ r, c < m) ∧
  ∀ (b : Bool) H', Same H H' → (b = true ↔ Reach t S aim r) → Q (.bl b) H'
/-- the walk's two parts -/
theorem walk_parts {H : Hp} {v : V} {q : Nat} {ws : List Nat} (h : Dp K H v (walkD (some (q, ws)))) : ∃ a b, v = .ref a ∧ SqT K H a [.int (q : Nat), .ref b] ∧ Dp K H (.ref b) (lettersD ws) := by
  obtain ⟨a, xs, rfl, sx, ax⟩ := dp_tup (show Dp K H v (.tuple [.int (q : Nat), lettersD ws]) from h)
  cases ax with
  | cons h1 h2 =>
    cases h2 with
    | cons h3 h4 =>
      cases h4
      cases dp_int h1
      obtain ⟨b, rfl, _⟩ := letters_at h3
      exact ⟨a, b, rfl, sx, h3⟩
theorem ok_law_reached {f : Addr} {fd : FuncData} (F : Fun K "_law_reached" "_law_reached" s__law_reached f fd) (B : Blt mg) (G__law_walk : DefK P w K mg base CX0 1 "_law_walk" P__law_walk (spLWalk K)) : FnOk P w K mg base CX0 2 f fd P__law_reached (spReached K) := by
  refine F.ok sc__law_reached (fun vs H Q E h => ?_) (fun cdv A outer s H vs Q E hr h => ?_)
  · obtain ⟨vt, vS, vr, t, m, S, r, aim, rfl, _⟩ := h
    rfl
  · obtain ⟨vt, vS, vr, t, m, S, r, aim, rfl, g, dt, dS, hS, ha, dr, r40, hc, k⟩ := h
    refine ⟨_, (pss_cons (ps_set (i := 4) sc__law_reached.nd rfl (Or.inl rfl) (pe_xnew (P := P) (w := w)))
 (pss_cons (ps_for PassesOwn.never rfl (k_pit K (pv 1)) (pg_name (i := 5) sc__law_reached.nd rfl (Or.inl rfl))
 (pss_cons (ps_set (i := 6) sc__law_reached.nd rfl (Or.inl rfl) (pe_def G__law_walk (hr.mono (by omega)) (by rfl) (pa_cons (pv 0) (pa_cons (pv 5) (pa_cons (pv 3) pa_nil)))))
 (pss_cons (ps_if (pt_cmpR op_isN (pv 6) pe_non (nomark _)) (pss_one (ps_ret pe_bl)) pss_nil)
 (pss_cons (ps_set (i := 7) sc__law_reached.nd rfl (Or.inl rfl) (pe_ifExp (pt_cmpR op_eq (pv 2) pe_str (nomark _)) pe_int (pe_ix (k_ixT K) (pv 6) pe_int (fun _ _ => rfl))))
 (pss_cons (ps_if (PW.pt (pw_and (pt_cmp (pc_xin K (P := P) (w := w) hr.units (pv 7) (pv 4))) (pw_and1 (PW.pt (pw_or (pt_cmpR op_eq (pv 2) pe_str (nomark _)) (pw_or1 (pt_cmpR op_ne (pe_xget K (P := P) (w := w) hr.units (pv 4) (pv 7) (fun _ _ => rfl)) (pe_ix (k_ixT K) (pv 6) pe_int (fun _ _ => rfl)) (nomark _)))))))) (pss_one (ps_ret pe_bl)) pss_nil)
 (pss_one (ps_xput K (P := P) (w := w) hr.units (pv 4) (pv 7) (pe_ix (k_ixT K) (pv 6) pe_int (fun _ _ => rfl)) rfl)))))))
 (pss_one (ps_ret pe_bl)))), ?_⟩
    obtain ⟨aS, rfl, sS⟩ := letters_at dS
    have nd := hS.nodup
    have z3 : aim = "home" ∨ aim = "first" ∨ aim = "last" := by
      have z : aim = "first" ∨ aim = "last" ∨ aim = "home" := by simpa [aims3] using ha
      rcases z with z | z | z
      · exact .inr (.inl z)
      · exact .inr (.inr z)
      · exact .inl z
    rcases z3 with rfl | z3
    · refine .inl fun d hd => ?_
      have s1 := same_new hd (HO.dK [])
      refine ⟨_, rfl, aS, rfl, ⟨_, seqT s1 sS⟩, for_tup (K := K) (a := aS) (xs := (S.map fun (c : Nat) => (c : Int)).map V.int) (fun i σ H' => ∃ u5 u6 u7, Same H H' ∧ σ = [some vt, some (.ref aS), some (.str (Str.ofString "home")), some vr, some (.ref d), u5, u6, u7] ∧
        ((i = 0 ∧ H' d = some (.dK [])) ∨ (0 < i ∧ ∃ e : Nat, H' d = some (.dK [(Sum.inl 0, .int (e : Nat))]) ∧ ∀ s ∈ S.take i, ∃ ws, walkF t s r = some (e, ws)))) ⟨none, none, none, s1, rfl, .inl ⟨rfl, upd_same⟩⟩ (fun i σ H' _ ⟨_, _, _, e, _⟩ => seqT e sS) ?_ ?_⟩
      · rintro i x σ H1 ex ⟨u5, u6, u7, s2, rfl, inv⟩
        obtain ⟨c, ec, rfl⟩ := nums_get ex
        have hc2 := hS.lt c (List.mem_of_getElem? ec)
        refine ⟨_, rfl, _, rfl, _, rfl, vt, vr, t, m, c, r, rfl, g, dp_same s2 dt, hc2, dp_same s2 dr, hc, r40, fun u H2 s3 du => ?_⟩
        have s23 := s2.trans s3
        refine ⟨_, rfl, rfl, _, rfl, ?_⟩
        cases ew : walkF t c r with
        | none =>
          rw [ew] at du
          rw [dp_non du, decide_eq_true rfl]
          exact k false H2 s23 ⟨fun z => (nomatch z), fun z => absurd ew (z.1 c (List.mem_of_getElem? ec))⟩
        | some p =>
          obtain ⟨q, ws⟩ := p
          rw [ew] at du
          obtain ⟨wa, wb, rfl, sw, db⟩ := walk_parts du
          rw [decide_eq_false (by intro z; cases z)]
          refine ⟨_, rfl, rfl, _, rfl, ?_⟩
          rw [decide_eq_true rfl]
          refine ⟨_, rfl, _, rfl, d, ?_⟩
          have tk := take_more ec
          rcases inv with ⟨rfl, e0⟩ | ⟨i0, e, e0, al⟩
          · have e1 := s3 _ _ e0
            refine ⟨_, rfl, .inl (DGet.k (k := Sum.inl 0) e1), ?_⟩
            refine ⟨_, rfl, _, rfl, wa, _, _, _, rfl, rfl, sw, atI_nat (j := 0) rfl, _, rfl, _, rfl, d, _, rfl, .inl (DPut.k (k := Sum.inl 0) e1 (by show 0 < sizeLine; decide)), ?_⟩
            refine ⟨_, _, _, same_upd s23 hd, rfl, .inr ⟨Nat.succ_pos _, q, upd_same, fun s hs => ?_⟩⟩
            rw [tk] at hs
            have hs' : s = c := by simpa using hs
            rw [hs']
            exact ⟨ws, ew⟩
          · have e1 := s3 _ _ e0
            refine ⟨_, rfl, .inl (DGet.k (k := Sum.inl 0) e1), ?_⟩
            refine ⟨_, rfl, _, rfl, rfl, _, rfl, ?_⟩
            rw [decide_eq_false (show (V.str (Str.ofString "home")) ≠ V.str "first" by decide +kernel)]
            refine ⟨_, rfl, _, rfl, d, _, rfl, .inl (DGet.k (k := Sum.inl 0) e1), _, rfl, wa, _, _, _, rfl, rfl, sw, atI_nat (j := 0) rfl, rfl, _, rfl, ?_⟩
            by_cases c2 : (e : Int) = (q : Int)
            · have c3 : e = q := by omega
              subst c3
              rw [decide_eq_true rfl]
              refine ⟨_, rfl, wa, _, _, _, rfl, rfl, sw, atI_nat (j := 0) rfl, _, rfl, _, rfl, d, _, rfl, .inl (DPut.k (k := Sum.inl 0) e1 (by show 1 < sizeLine; decide)), ?_⟩
              refine ⟨_, _, _, same_upd s23 hd, rfl, .inr ⟨Nat.succ_pos _, e, upd_same, fun s hs => ?_⟩⟩
              rw [tk] at hs
              rcases List.mem_append.mp hs with hs | hs
              · exact al s hs
              · rw [List.mem_singleton.mp hs]
                exact ⟨ws, ew⟩
            · rw [decide_eq_false (fun z => c2 (by injection z))]
              refine k false H2 s23 ⟨fun z => (nomatch z), fun z => ?_⟩
              exfalso
              cases S with
              | nil => exact hS.ne rfl
              | cons s0 S' =>
                have m0 : s0 ∈ (s0 :: S').take i := by
                  cases i with
                  | zero => omega
                  | succ i => simp
                obtain ⟨ws0, e2⟩ := al s0 m0
                have z2 := z.2 s0 List.mem_cons_self c (List.mem_of_getElem? ec) _ _ e2 ew
                unfold aimOk at z2
                rw [if_pos rfl] at z2
                exact c2 (by rw [show e = q from z2])
      · rintro σ H1 ⟨u5, u6, u7, s2, rfl, inv⟩
        have lS : ((S.map fun (c : Nat) => (c : Int)).map V.int).length = S.length := by rw [List.length_map, List.length_map]
        refine k true H1 s2 ⟨fun _ => ?_, fun _ => rfl⟩
        rw [lS, List.take_length] at inv
        rcases inv with ⟨z, _⟩ | ⟨_, e, _, al⟩
        · exact absurd (List.length_eq_zero_iff.mp z) hS.ne
        · refine ⟨fun s hs => ?_, fun s hs s' hs' p p' e1 e2 => ?_⟩
          · obtain ⟨ws, z⟩ := al s hs
            rw [z]
            exact fun q => nomatch q
          · obtain ⟨ws, z⟩ := al s hs
            obtain ⟨ws', z'⟩ := al s' hs'
            cases e1.symm.trans z
            cases e2.symm.trans z'
            unfold aimOk
            rw [if_pos rfl]
    · have nh : (V.str (Str.ofString aim)) ≠ V.str "home" := by
        rcases z3 with rfl | rfl <;> decide +kernel
      refine .inr fun d hd => ?_
      have s1 := same_new hd (NDO P w d [])
      refine ⟨_, rfl, aS, rfl, ⟨_, seqT s1 sS⟩, for_tup (K := K) (a := aS) (xs := (S.map fun (c : Nat) => (c : Int)).map V.int) (fun i σ H' => ∃ u5 u6 u7, Same H H' ∧ σ = [some vt, some (.ref aS), some (.str (Str.ofString aim)), some vr, some (.ref d), u5, u6, u7] ∧
        ∃ xs, ND K P w H' d xs ∧ xs.length ≤ i ∧ (∀ s ∈ S.take i, ∃ (e : Nat) (ws : List Nat), walkF t s r = some (e, ws) ∧ nAt xs (kD (lettersD ws)) = some (.int (e : Nat))) ∧
          (∀ ws v, nAt xs (kD (lettersD ws)) = some v → ∃ s ∈ S.take i, ∃ e : Nat, walkF t s r = some (e, ws) ∧ v = .int (e : Nat)) ∧
          (aim = "first" → ∀ s ∈ S.take i, ∀ s' ∈ S.take i, ∀ e e' ws, walkF t s r = some (e, ws) → walkF t s' r = some (e', ws) → s = s')) ⟨none, none, none, s1, rfl, [], ND.new, Nat.le_refl _, (fun _ z => nomatch z), (fun ws v z => by simp [nAt] at z), fun _ _ z => nomatch z⟩ (fun i σ H' _ ⟨_, _, _, e, _⟩ => seqT e sS) ?_ ?_⟩
      · rintro i x σ H1 ex ⟨u5, u6, u7, s2, rfl, xs, ndx, lxs, i1, i2, i3⟩
        obtain ⟨c, ec, rfl⟩ := nums_get ex
        have cm := List.mem_of_getElem? ec
        have hc2 := hS.lt c cm
        refine ⟨_, rfl, _, rfl, _, rfl, vt, vr, t, m, c, r, rfl, g, dp_same s2 dt, hc2, dp_same s2 dr, hc, r40, fun u H2 s3 du => ?_⟩
        have s23 := s2.trans s3
        have tk := take_more ec
        have nt := not_take nd ec
        have il := (List.getElem?_eq_some_iff.mp ec).1
        refine ⟨_, rfl, rfl, _, rfl, ?_⟩
        cases ew : walkF t c r with
        | none =>
          rw [ew] at du
          rw [dp_non du, decide_eq_true rfl]
          exact k false H2 s23 ⟨fun z => (nomatch z), fun z => absurd ew (z.1 c cm)⟩
        | some p =>
          obtain ⟨q, ws⟩ := p
          rw [ew] at du
          obtain ⟨wa, wb, rfl, sw, db⟩ := walk_parts du
          rw [decide_eq_false (by intro z; cases z)]
          refine ⟨_, rfl, rfl, _, rfl, ?_⟩
          rw [decide_eq_false nh]
          have ndx2 := ndx.same s3
          have kb := key_letters db
          have ls := hS.len
          have g6 := g.hi
          refine ⟨_, rfl, wa, _, _, _, rfl, rfl, sw, atI_nat (j := 1) rfl, _, rfl, _, rfl, d, _, rfl, .inr ⟨xs, wb, _, ndx2, rfl, kb, rfl⟩, ?_⟩
          -- the next dict
          have put : ∀ σ', σ' = [some vt, some (.ref aS), some (.str (Str.ofString aim)), some vr, some (.ref d), some (.int (c : Nat)), some (.ref wa), some (.ref wb)] → (∀ s ∈ S.take i, ∀ e, walkF t s r = some (e, ws) → e = q ∧ aim ≠ "first") →
              (∃ u5 u6 u7, Same H (upd H2 d (NDO P w d (nPut xs (kD (lettersD ws)) wb (.int (q : Nat))))) ∧ σ' = [some vt, some (.ref aS), some (.str (Str.ofString aim)), some vr, some (.ref d), u5, u6, u7] ∧ ∃ xs', ND K P w (upd H2 d (NDO P w d (nPut xs (kD (lettersD ws)) wb (.int (q : Nat))))) d xs' ∧ xs'.length ≤ i + 1 ∧
                (∀ s ∈ S.take (i + 1), ∃ (e : Nat) (ws : List Nat), walkF t s r = some (e, ws) ∧ nAt xs' (kD (lettersD ws)) = some (.int (e : Nat))) ∧
                (∀ ws v, nAt xs' (kD (lettersD ws)) = some v → ∃ s ∈ S.take (i + 1), ∃ e : Nat, walkF t s r = some (e, ws) ∧ v = .int (e : Nat)) ∧
                (aim = "first" → ∀ s ∈ S.take (i + 1), ∀ s' ∈ S.take (i + 1), ∀ e e' ws, walkF t s r = some (e, ws) → walkF t s' r = some (e', ws) → s = s')) := by
            intro σ' eσ own
            refine ⟨_, _, _, same_upd s23 hd, eσ, _, ndx2.put kb, ?_, ?_, ?_, ?_⟩
            · have := nPut_len xs (kD (lettersD ws)) wb (.int (q : Nat))
              omega
            · intro s hs
              rw [tk] at hs
              rcases List.mem_append.mp hs with hs | hs
              · obtain ⟨e, ws', e1, e2⟩ := i1 s hs
                refine ⟨e, ws', e1, ?_⟩
                rw [nAt_put]
                by_cases z : kD (lettersD ws') = kD (lettersD ws)
                · rw [if_pos z]
                  have := kD_letters_inj z
                  subst this
                  rw [(own s hs e e1).1]
                · rw [if_neg z]
                  exact e2
              · rw [List.mem_singleton.mp hs]
                exact ⟨q, ws, ew, by rw [nAt_put, if_pos rfl]⟩
            · intro ws' v hv
              rw [nAt_put] at hv
              by_cases z : kD (lettersD ws') = kD (lettersD ws)
              · rw [if_pos z] at hv
                have := kD_letters_inj z
                subst this
                refine ⟨c, by rw [tk]; simp, q, ew, (Option.some.inj hv).symm⟩
              · rw [if_neg z] at hv
                obtain ⟨s, hs, e, e1, e2⟩ := i2 ws' v hv
                exact ⟨s, by rw [tk]; exact List.mem_append_left _ hs, e, e1, e2⟩
            · intro ef s hs s' hs' e e' ws' h1 h2
              rw [tk] at hs hs'
              rcases List.mem_append.mp hs with hs | hs <;> rcases List.mem_append.mp hs' with hs' | hs'
              · exact i3 ef s hs s' hs' e e' ws' h1 h2
              · rw [List.mem_singleton.mp hs'] at h2 ⊢
                cases ew.symm.trans h2
                exact absurd ef (own s hs e h1).2
              · rw [List.mem_singleton.mp hs] at h1 ⊢
                cases ew.symm.trans h1
                exact absurd ef (own s' hs' e' h2).2
              · rw [List.mem_singleton.mp hs, List.mem_singleton.mp hs']
          cases en : nAt xs (kD (lettersD ws)) with
          | none =>
            refine ⟨_, rfl, _, rfl, wa, _, _, _, rfl, rfl, sw, atI_nat (j := 0) rfl, _, rfl, _, rfl, d, _, rfl, .inr ⟨xs, wb, _, ndx2, rfl, kb, by rw [sizeLine_eq]; omega, rfl⟩, ?_⟩
            refine put _ rfl fun s hs e he => ?_
            obtain ⟨e2, ws2, h1, h2⟩ := i1 s hs
            cases h1.symm.trans he
            rw [en] at h2
            cases h2
          | some v =>
            obtain ⟨s0, hs0, e0, h1, rfl⟩ := i2 ws v en
            have ms0 := List.mem_of_mem_take hs0
            have s0c : s0 ≠ c := fun z => nt (z ▸ hs0)
            refine ⟨_, rfl, _, rfl, rfl, _, rfl, ?_⟩
            rcases z3 with rfl | rfl
            · rw [decide_eq_true rfl]
              refine k false H2 s23 ⟨fun z => (nomatch z), fun z => ?_⟩
              have z2 := z.2 s0 ms0 c cm _ _ h1 ew
              unfold aimOk at z2
              rw [if_neg (by decide), if_pos rfl] at z2
              exact absurd (z2 rfl) s0c
            · rw [decide_eq_false (show (V.str (Str.ofString "last")) ≠ V.str "first" by decide +kernel)]
              refine ⟨_, rfl, _, rfl, d, _, rfl, .inr ⟨xs, wb, _, ndx2, rfl, kb, en.symm⟩, _, rfl, wa, _, _, _, rfl, rfl, sw, atI_nat (j := 0) rfl, rfl, _, rfl, ?_⟩
              by_cases c2 : (e0 : Int) = (q : Int)
              · have c3 : e0 = q := by omega
                subst c3
                rw [decide_eq_true rfl]
                refine ⟨_, rfl, wa, _, _, _, rfl, rfl, sw, atI_nat (j := 0) rfl, _, rfl, _, rfl, d, _, rfl, .inr ⟨xs, wb, _, ndx2, rfl, kb, by rw [sizeLine_eq]; omega, rfl⟩, ?_⟩
                refine put _ rfl fun s hs e he => ⟨?_, by decide⟩
                obtain ⟨e2, ws2, h3, h4⟩ := i1 s hs
                cases h3.symm.trans he
                rw [en] at h4
                injection h4 with h4
                injection h4 with h4
                omega
              · rw [decide_eq_false (fun z => c2 (by injection z))]
                refine k false H2 s23 ⟨fun z => (nomatch z), fun z => ?_⟩
                have z2 := z.2 s0 ms0 c cm _ _ h1 ew
                unfold aimOk at z2
                rw [if_neg (by decide), if_neg (by decide)] at z2
                exact absurd (by rw [show e0 = q from z2 rfl]) c2
      · rintro σ H1 ⟨u5, u6, u7, s2, rfl, xs, ndx, lxs, i1, i2, i3⟩
        have lS : ((S.map fun (c : Nat) => (c : Int)).map V.int).length = S.length := by rw [List.length_map, List.length_map]
        rw [lS, List.take_length] at i1 i2 i3
        refine k true H1 s2 ⟨fun _ => ?_, fun _ => rfl⟩
        refine ⟨fun s hs => ?_, fun s hs s' hs' p p' e1 e2 => ?_⟩
        · obtain ⟨e, ws, z, _⟩ := i1 s hs
          rw [z]
          exact fun q => nomatch q
        · obtain ⟨q, ws⟩ := p
          obtain ⟨q', ws'⟩ := p'
          rcases z3 with rfl | rfl
          · unfold aimOk
            rw [if_neg (by decide), if_pos rfl]
            intro e
            have e : ws = ws' := e
            subst e
            exact i3 rfl s hs s' hs' _ _ _ e1 e2
          · unfold aimOk
            rw [if_neg (by decide), if_neg (by decide)]
            intro e
            have e : ws = ws' := e
            subst e
            obtain ⟨a1, b1, z1, y1⟩ := i1 s hs
            obtain ⟨a2, b2, z2, y2⟩ := i1 s' hs'
            cases e1.symm.trans z1
            cases e2.symm.trans z2
            rw [y1] at y2
            injection y2 with y2
            injection y2 with y2
            show q = q'
            omega
/-! ### the law -/
def spLaw (K : PySem.W.Frag) : Sp := fun vs H Q _ => ∃ (a : Addr) (ns : List Int), vs = [.ref a] ∧ SqL K H a (ns.map V.int) ∧ ns.length ≤ 63 ∧ ∀ H', Q (.bl true) H'
section
variable {C : Addr}
theorem reach_fl {t : Tab} {S r : List Nat} (h : Reach t S "first" r) : Reach t S "last" r := by
  refine ⟨h.1, fun s hs s' hs' p p' e e' => ?_⟩
  have z := h.2 s hs s' hs' p p' e e'
  unfold aimOk at z ⊢
  rw [if_neg (by decide), if_pos rfl] at z
  rw [if_neg (by decide), if_neg (by decide)]
  intro w
  have q := z w
  subst q
  cases e.symm.trans e'
  rfl
theorem reach_hl {t : Tab} {S r : List Nat} (h : Reach t S "home" r) : Reach t S "last" r := by
  refine ⟨h.1, fun s hs s' hs' p p' e e' => ?_⟩
  have z := h.2 s hs s' hs' p p' e e'
  unfold aimOk at z ⊢
  rw [if_pos rfl] at z
  rw [if_neg (by decide), if_neg (by decide)]
  exact fun _ => z
def ent (bs : List Bool) : List (Key × V) := List.zipWith (fun (a : String) b => (Sum.inr (Str.ofString a), V.bl b)) aims3 bs
theorem ent_put {bs : List Bool} {a : String} {b : Bool} (h : aims3[bs.length]? = some a) : putK (ent bs) (Sum.inr (Str.ofString a)) (.bl b) = ent (bs ++ [b]) := by
  match bs with
  | [] => cases h; rfl
  | [b1] => cases h; cases b1 <;> cases b <;> decide +kernel
  | [b1, b2] => cases h; cases b1 <;> cases b2 <;> cases b <;> decide +kernel
  | b1 :: b2 :: b3 :: bs => simp [aims3] at h
theorem ent_get {bs : List Bool} {a : String} {b : Bool} {j : Nat} (h : aims3[j]? = some a) (hb : bs[j]? = some b) : valV (ent bs) (Sum.inr (Str.ofString a)) = some (.bl b) := by
  match j, bs with
  | 0, b1 :: bs => cases h; cases hb; cases b <;> rfl
  | 1, b1 :: b2 :: bs => cases h; cases hb; cases b <;> cases b1 <;> rfl
  | 2, b1 :: b2 :: b3 :: bs => cases h; cases hb; cases b <;> cases b1 <;> cases b2 <;> rfl
  | 0, [] => simp at hb
  | 1, [] => simp at hb
  | 1, [_] => simp at hb
  | 2, [] => simp at hb
  | 2, [_] => simp at hb
  | 2, [_, _] => simp at hb
  | j + 3, _ => simp [aims3] at h
theorem ok_law {f : Addr} {fd : FuncData} (F : Fun K "law" "law" s_law f fd) (B : Blt mg) (G__law_mix : DefK P w K mg base CX0 1 "_law_mix" P__law_mix (spMix K)) (G__law_next : DefK P w K mg base CX0 1 "_law_next" P__law_next spNext)
    (G__law_pick : DefK P w K mg base CX0 2 "_law_pick" P__law_pick spPick) (G__law_table : DefK P w K mg base CX0 3 "_law_table" P__law_table (spTable K)) (G__law_stands : DefK P w K mg base CX0 2 "_law_stands" P__law_stands (spStands K)) (G__law_row : DefK P w K mg base CX0 2 "_law_row" P__law_row (spLRow K))
    (G__law_reached : DefK P w K mg base CX0 2 "_law_reached" P__law_reached (spReached K)) (G__law_alike : DefK P w K mg base CX0 3 "_law_alike" P__law_alike (spAlike K 3)) (G_reaches : DefK P w K mg base CX0 5 "reaches" P_reaches (spReaches K C))
    (m_Machine : MkK P w K mg base CX0 5 C "Machine" P_Machine_init (spMInit K C)) : FnOk P w K mg base CX0 7 f fd P_law (spLaw K) := by
  refine F.ok sc_law (fun vs H Q E h => ?_) (fun cdv A outer s H vs Q E hr h => ?_)
  · obtain ⟨a, ns, rfl, _⟩ := h
    rfl
  · obtain ⟨a, ns, rfl, hS, hlen, k⟩ := h
    refine ⟨_, (pss_cons (ps_set (i := 1) sc_law.nd rfl (Or.inl rfl) (pe_def G__law_mix (hr.mono (by omega)) (by rfl) (pa_cons (pv 0) (pa_cons pe_int pa_nil))))
 (pss_cons (ps_for PassesOwn.never rfl (pi_range1 (by rfl) B.n_range (pa_cons pe_int pa_nil)) (pg_name (i := 2) sc_law.nd rfl (Or.inl rfl))
 (pss_cons (ps_set (i := 3) sc_law.nd rfl (Or.inl rfl) (pe_def G__law_table (hr.mono (by omega)) (by rfl) (pa_cons (pv 1) pa_nil)))
 (pss_cons (ps_par (i := 4) (j := 5) rfl sc_law.nd rfl rfl (by decide) rfl rfl (pa_cons (pe_mkM m_Machine (hr.mono (by omega)) (by rfl) (pa_cons (pv 3) pa_nil)) (pa_cons (pe_def G__law_stands (hr.mono (by omega)) (by rfl) (pa_cons (pv 1) (pa_cons (pv 3) pa_nil))) pa_nil)) rfl)
 (pss_one (ps_for PassesOwn.never rfl (k_pil K (pe_lst (pa_cons pe_int (pa_cons pe_int (pa_cons pe_int (pa_cons pe_int (pa_cons pe_int (pa_cons (pe_def G__law_pick (hr.mono (by omega)) (by rfl) (pa_cons (pv 1) (pa_cons (pe_lst (pa_cons pe_int (pa_cons pe_int (pa_cons pe_int pa_nil)))) pa_nil))) pa_nil)))))))) (pg_name (i := 6) sc_law.nd rfl (Or.inl rfl))
 (pss_cons (ps_par (i := 7) (j := 8) rfl sc_law.nd rfl rfl (by decide) rfl rfl (pa_cons (pe_def G__law_row (hr.mono (by omega)) (by rfl) (pa_cons (pv 1) (pa_cons (pv 3) (pa_cons (pv 6) pa_nil)))) (pa_cons (pe_xnew (P := P) (w := w)) pa_nil)) rfl)
 (pss_cons (ps_for PassesOwn.never rfl (k_pil K (pe_lst (pa_cons pe_str (pa_cons pe_str (pa_cons pe_str pa_nil))))) (pg_name (i := 9) sc_law.nd rfl (Or.inl rfl))
 (pss_cons (ps_xput K (P := P) (w := w) hr.units (pv 8) (pv 9) (pe_def G_reaches (hr.mono (by omega)) (by rfl) (pa_cons (pv 4) (pa_cons (pv 5) (pa_cons (pv 9) (pa_cons (pv 7) pa_nil))))) rfl)
 (pss_one (ps_if (pt_not (pt_val (pe_def G__law_alike (hr.mono (by omega)) (by rfl) (pa_cons (pe_xget K (P := P) (w := w) hr.units (pv 8) (pv 9) (fun _ _ => rfl)) (pa_cons (pe_def G__law_reached (hr.mono (by omega)) (by rfl) (pa_cons (pv 3) (pa_cons (pv 5) (pa_cons (pv 9) (pa_cons (pv 7) pa_nil))))) pa_nil))))) (pss_one (ps_ret pe_bl)) pss_nil))))
 (pss_one (ps_if (PW.pt (pw_and (PW.pt (pw_or (pt_val (pe_xget K (P := P) (w := w) hr.units (pv 8) pe_str (fun _ _ => rfl))) (pw_or1 (pt_val (pe_xget K (P := P) (w := w) hr.units (pv 8) pe_str (fun _ _ => rfl)))))) (pw_and1 (pt_not (pt_val (pe_xget K (P := P) (w := w) hr.units (pv 8) pe_str (fun _ _ => rfl))))))) (pss_one (ps_ret pe_bl)) pss_nil)))))))))
 (pss_one (ps_ret pe_bl)))), ?_⟩
    refine ⟨_, rfl, a, ns, 4, rfl, hS, hlen, by decide, by decide, fun h l H0 s0 _ _ S0 => ?_⟩
    refine ⟨_, rfl, by decide, by decide, for_range (lo := 0) (n := (4 : Int).toNat) (fun i σ H' => ∃ u2 u3 u4 u5 u6 u7 u8 u9, σ = [some (.ref a), some (.ref h), u2, u3, u4, u5, u6, u7, u8, u9] ∧ Src H' h l) ⟨none, none, none, none, none, none, none, none, rfl, S0⟩ ?_ ?_⟩
    · rintro i σ H1 hi ⟨u2, u3, u4, u5, u6, u7, u8, u9, rfl, S1⟩
      refine ⟨_, rfl, h, l, rfl, S1, fun vt t m H2 g dt S2 k2 => ?_⟩
      refine ⟨_, rfl, fun x dx nx nd ne => ?_⟩
      have s1 := mk_same C nx nd ne
      refine ⟨x, dx, _, t, m, rfl, upd_same, g, dp_same s1 dt, fun H3 mm kk => ⟨rfl, ?_⟩⟩
      have s3 : Same H2 H3 := fun b o e => kk b o (ne_of_none e nx) (s1 b o e)
      refine ⟨_, rfl, _, rfl, h, l, vt, t, m, rfl, S2.same s3, g, dp_same s3 dt, fun vS S H4 hS dS S4 k4 => ⟨_, _, rfl, ?_⟩⟩
      have m4 := mm.keep (S2.same s3) k4
      have dt4 := (S2.same s3).keepD k4 (dp_same s3 dt) (noL_tab t)
      refine ⟨_, rfl, by show 3 ≤ sizeLine; decide, fun q hq => ⟨h, l, q, _, rfl, S4.same (same_new hq _), upd_same, (S4.neN hq).1, (S4.neN hq).2, by show 0 < 3; decide, by show 3 < 1000000; decide, fun v H5 vm S5 k5 => ?_⟩⟩
      have sq := same_new hq (HO.lst [V.int 6, V.int 10, V.int 40])
      have m5 := (m4.same sq).keep (S4.same sq) k5
      have dt5 := (S4.same sq).keepD k5 (dp_same sq dt4) (noL_tab t)
      have dS5 := (S4.same sq).keepD k5 (dp_same sq dS) (noL_letters S)
      obtain ⟨y, rfl, y40⟩ : ∃ y : Nat, v = .int (y : Nat) ∧ y ≤ 40 := by
        have z : v = .int 6 ∨ v = .int 10 ∨ v = .int 40 := by simpa using vm
        rcases z with rfl | rfl | rfl
        · exact ⟨6, rfl, by decide⟩
        · exact ⟨10, rfl, by decide⟩
        · exact ⟨40, rfl, by decide⟩
      refine ⟨by show 6 ≤ sizeLine; decide, fun L hL => ⟨L, rfl, ⟨_, SqL.of upd_same⟩, for_list (K := K) (a := L) (xs := [.int (0 : Nat), .int (1 : Nat), .int (2 : Nat), .int (3 : Nat), .int (4 : Nat), .int (y : Nat)]) (fun j σ H' => ∃ u6 u7 u8 u9, σ = [some (.ref a), some (.ref h), some (.int (0 + (i : Int))), some vt, some (.ref x), some vS, u6, u7, u8, u9] ∧ Src H' h l ∧ Dp K H' vt (tabD t) ∧ Dp K H' vS (lettersD S) ∧ Mach K C H' x t ∧
        H' L = some (.lst [.int (0 : Nat), .int (1 : Nat), .int (2 : Nat), .int (3 : Nat), .int (4 : Nat), .int (y : Nat)])) ⟨u6, u7, u8, u9, rfl, S5.same (same_new hL _), dp_same (same_new hL _) dt5, dp_same (same_new hL _) dS5, m5.same (same_new hL _), upd_same⟩ (fun j σ H' _ ⟨_, _, _, _, _, _, _, _, _, e⟩ => SqL.of e) ?_ ?_⟩⟩
      · have nL := S5.neN hL
        rintro j z σ H6 hz ⟨u6, u7, u8, u9, rfl, S6, dt6, dS6, m6, eL⟩
        obtain ⟨c, rfl, c40⟩ : ∃ c : Nat, z = .int (c : Nat) ∧ c ≤ 40 := by
          have q2 := List.mem_of_getElem? hz
          have q3 : z = .int (0 : Nat) ∨ z = .int (1 : Nat) ∨ z = .int (2 : Nat) ∨ z = .int (3 : Nat) ∨ z = .int (4 : Nat) ∨ z = .int (y : Nat) := by simpa using q2
          rcases q3 with rfl | rfl | rfl | rfl | rfl | rfl
          · exact ⟨0, rfl, by decide⟩
          · exact ⟨1, rfl, by decide⟩
          · exact ⟨2, rfl, by decide⟩
          · exact ⟨3, rfl, by decide⟩
          · exact ⟨4, rfl, by decide⟩
          · exact ⟨y, rfl, y40⟩
        refine ⟨_, rfl, _, rfl, _, rfl, h, l, vt, t, m, c, rfl, S6, g, dt6, by omega, fun vr r H7 dr lr cr S7 k7 => ?_⟩
        have m7 := m6.keep S6 k7
        have dt7 := S6.keepD k7 dt6 (noL_tab t)
        have dS7 := S6.keepD k7 dS6 (noL_letters S)
        have eL7 := k7 _ _ nL.1 nL.2 eL
        refine .inl fun d hd => ⟨_, _, rfl, ?_⟩
        have sd := same_new hd (HO.dK [])
        have nd7 := S7.neN hd
        refine ⟨by show 3 ≤ sizeLine; decide, fun L2 hL2 => ⟨L2, rfl, ⟨_, SqL.of upd_same⟩, for_list (K := K) (a := L2) (xs := [.str "first", .str "last", .str "home"]) (fun j2 σ H' => ∃ u9 bs, σ = [some (.ref a), some (.ref h), some (.int (0 + (i : Int))), some vt, some (.ref x), some vS, some (.int (c : Nat)), some vr, some (.ref d), u9] ∧ Same H7 H' ∧ H' d = some (.dK (ent bs)) ∧ bs.length = j2 ∧
          (∀ (j3 : Nat) aim b, aims3[j3]? = some aim → bs[j3]? = some b → (b = true ↔ Reach t S aim r)) ∧ H' L2 = some (.lst [.str "first", .str "last", .str "home"])) ?_ (fun j2 σ H' _ ⟨_, _, _, _, _, _, _, e⟩ => SqL.of e) ?_ ?_⟩⟩
        · have dL : d ≠ L2 := ne_of_none upd_same hL2
          exact ⟨u9, [], rfl, sd.trans (same_new hL2 _), by rw [upd_ne dL, upd_same]; rfl, rfl, (fun j3 aim b _ z => by simp at z), upd_same⟩
        · rintro j2 z2 σ H8 hz2 ⟨u9, bs, rfl, s8, ed, lb, hb, eL2⟩
          obtain ⟨aim, ea, rfl, am⟩ : ∃ aim : String, aims3[j2]? = some aim ∧ z2 = .str (Str.ofString aim) ∧ aim ∈ aims3 := by
            match j2, hz2 with
            | 0, e => cases e; exact ⟨"first", rfl, rfl, by simp [aims3]⟩
            | 1, e => cases e; exact ⟨"last", rfl, rfl, by simp [aims3]⟩
            | 2, e => cases e; exact ⟨"home", rfl, rfl, by simp [aims3]⟩
          have j3 : j2 < 3 := (List.getElem?_eq_some_iff.mp ea).1
          refine ⟨_, rfl, _, rfl, _, rfl, _, rfl, x, vS, vr, t, m, S, r, aim, rfl, m7.same s8, g, dp_same s8 dS7, hS, am, dp_same s8 dr, by omega, cr, fun b H9 s9 hb9 => ?_⟩
          have ed9 := s9 _ _ ed
          have el9 := s9 _ _ eL2
          have dL : L2 ≠ d := ne_of el9 ed9 (by intro z; cases z)
          refine ⟨_, rfl, _, rfl, d, _, rfl, .inl (DPut.k (k := Sum.inr (Str.ofString aim)) ed9 ?_), ?_⟩
          · have : (ent bs).length ≤ bs.length := by
              unfold ent
              rw [List.length_zipWith]
              exact Nat.min_le_right _ _
            rw [sizeLine_eq]
            omega
          have ea' : aims3[bs.length]? = some aim := by rw [lb]; exact ea
          have eb' : (bs ++ [b])[j2]? = some b := by rw [← lb]; simp
          have eg : DGet (upd H9 d (.dK (putK (ent bs) (Sum.inr (Str.ofString aim)) (.bl b)))) d (.str (Str.ofString aim)) (some (.bl b)) := by
            have z := DGet.k (k := Sum.inr (Str.ofString aim)) (upd_same (H := H9) (a := d) (o := .dK (putK (ent bs) (Sum.inr (Str.ofString aim)) (.bl b))))
            rw [ent_put ea', ent_get ea eb'] at z
            rw [ent_put ea']
            exact z
          have sA := same_upd (s8.trans s9) hd (o := .dK (putK (ent bs) (Sum.inr (Str.ofString aim)) (.bl b)))
          refine ⟨_, rfl, _, rfl, d, _, rfl, .inl eg, _, rfl, _, rfl, _, rfl, _, rfl, vt, vS, vr, t, m, S, r, aim, rfl, g, dp_same sA dt7, dp_same sA dS7, hS, am, dp_same sA dr, by omega, cr, fun b2 H10 s10 hb10 => ?_⟩
          have bb : b2 = b := by
            cases b <;> cases b2 <;> simp_all
          subst bb
          refine ⟨.bl b2, .bl b2, .bool b2, rfl, .bl b2, .bl b2, rfl, fun H11 s11 => ⟨_, rfl, ?_⟩⟩
          have sB := sA.trans (s10.trans s11)
          refine ⟨_, bs ++ [b2], rfl, sB, ?_, by rw [List.length_append, lb]; rfl, fun j4 aim4 b4 e4 h4 => ?_, ?_⟩
          · rw [← ent_put ea']
            exact (s10.trans s11) _ _ upd_same
          · by_cases c4 : j4 < bs.length
            · rw [List.getElem?_append_left c4] at h4
              exact hb j4 aim4 b4 e4 h4
            · have l4 := (List.getElem?_eq_some_iff.mp h4).1
              rw [List.length_append, List.length_singleton] at l4
              have e5 : j4 = j2 := by omega
              subst e5
              rw [ea] at e4
              cases e4
              rw [eb'] at h4
              cases h4
              exact hb9
          · exact (s10.trans s11) _ _ (by rw [upd_ne dL]; exact el9)
        · rintro σ H8 ⟨w9, bs, rfl, s8, ed, lb, hb, eL2⟩
          obtain ⟨b0, b1, b2, rfl⟩ : ∃ b0 b1 b2, bs = [b0, b1, b2] := by
            match bs, lb with
            | [b0, b1, b2], _ => exact ⟨b0, b1, b2, rfl⟩
          have h0 := hb 0 "first" b0 rfl rfl
          have h1 := hb 1 "last" b1 rfl rfl
          have h2 := hb 2 "home" b2 rfl rfl
          have g0 : DGet H8 d (.str (Str.ofString "first")) (some (.bl b0)) := by
            have z := DGet.k (k := Sum.inr (Str.ofString "first")) ed
            rw [ent_get (j := 0) (a := "first") rfl rfl] at z
            exact z
          have g1 : DGet H8 d (.str (Str.ofString "last")) (some (.bl b1)) := by
            have z := DGet.k (k := Sum.inr (Str.ofString "last")) ed
            rw [ent_get (j := 1) (a := "last") rfl rfl] at z
            exact z
          have g2 : DGet H8 d (.str (Str.ofString "home")) (some (.bl b2)) := by
            have z := DGet.k (k := Sum.inr (Str.ofString "home")) ed
            rw [ent_get (j := 2) (a := "home") rfl rfl] at z
            exact z
          have fin : ∃ u6 u7 u8 u9, ([some (.ref a), some (.ref h), some (.int (0 + (i : Int))), some vt, some (.ref x), some vS, some (.int (c : Nat)), some vr, some (.ref d), w9] : List (Option V)) = [some (.ref a), some (.ref h), some (.int (0 + (i : Int))), some vt, some (.ref x), some vS, u6, u7, u8, u9] ∧ Src H8 h l ∧ Dp K H8 vt (tabD t) ∧ Dp K H8 vS (lettersD S) ∧ Mach K C H8 x t ∧
              H8 L = some (.lst [.int (0 : Nat), .int (1 : Nat), .int (2 : Nat), .int (3 : Nat), .int (4 : Nat), .int (y : Nat)]) := ⟨_, _, _, _, rfl, S7.same s8, dp_same s8 dt7, dp_same s8 dS7, m7.same s8, s8 _ _ eL7⟩
          have fst : b0 = true → b1 = true := fun z => h1.mpr (reach_fl (h0.mp z))
          have hst : b2 = true → b1 = true := fun z => h1.mpr (reach_hl (h2.mp z))
          refine ⟨_, rfl, d, _, rfl, .inl g0, _, rfl, ?_⟩
          cases b0 with
          | true =>
            have z := fst rfl
            subst z
            exact ⟨_, rfl, d, _, rfl, .inl g1, _, rfl, fin⟩
          | false =>
            refine ⟨_, rfl, d, _, rfl, .inl g2, _, rfl, ?_⟩
            cases b2 with
            | true =>
              have z := hst rfl
              subst z
              exact ⟨_, rfl, d, _, rfl, .inl g1, _, rfl, fin⟩
            | false => exact fin
      · rintro σ H6 ⟨u6, u7, u8, u9, rfl, S6, _⟩
        exact ⟨_, _, _, _, _, _, _, _, rfl, S6⟩
    · rintro σ H1 ⟨u2, u3, u4, u5, u6, u7, u8, u9, rfl, S1⟩
      exact k H1
end
end
/-! ### what the top has left, the head -/
theorem all_mk {l : PySem.W.OpenLaw} {w : World} {K : PySem.W.Frag} {h : Heap} {mg : Str → Option Value} {fa : Addr} (X : K.In h) (G : h.Ns mainGlobals mg) (hfa : mg "law" = some (.ref fa))
    {t_MOST_STANDS : Tok}
    {t_WRITTEN_LETTERS : Tok}
    {t_LONGEST_ROW : Tok}
    {a_LETTER_COUNTS : Addr} {dd_LETTER_COUNTS : Option Addr} {n_LETTER_COUNTS : Nat} {sl_LETTER_COUNTS : Array (Option Value)} {t0_LETTER_COUNTS t1_LETTER_COUNTS : Tok}
    {a_ROW_AIMS : Addr} {dd_ROW_AIMS : Option Addr} {n_ROW_AIMS : Nat} {sl_ROW_AIMS : Array (Option Value)} {t0_ROW_AIMS t1_ROW_AIMS t2_ROW_AIMS : Tok}
    {C : Addr}
    {pa_Machine_table : Addr} {rest_Machine_table : List Value}
    {f_Machine_table : Addr} {od_Machine_table an_Machine_table : Option Addr} {sl_Machine_table : Array (Option Value)} {oc_Machine_table kV_Machine_table dc_Machine_table pm_Machine_table cd_Machine_table ct_Machine_table : Value}
    {pa_Machine_letters : Addr} {rest_Machine_letters : List Value}
    {f_Machine_letters : Addr} {od_Machine_letters an_Machine_letters : Option Addr} {sl_Machine_letters : Array (Option Value)} {oc_Machine_letters kV_Machine_letters dc_Machine_letters pm_Machine_letters cd_Machine_letters ct_Machine_letters : Value}
    {f_Machine_len : Addr} {od_Machine_len an_Machine_len : Option Addr} {sl_Machine_len : Array (Option Value)} {oc_Machine_len kV_Machine_len dc_Machine_len pm_Machine_len cd_Machine_len ct_Machine_len : Value}
    {f_is_below : Addr} {od_is_below an_is_below : Option Addr} {sl_is_below : Array (Option Value)} {oc_is_below kV_is_below dc_is_below pm_is_below cd_is_below ct_is_below : Value}
    {f__is_step : Addr} {od__is_step an__is_step : Option Addr} {sl__is_step : Array (Option Value)} {oc__is_step kV__is_step dc__is_step pm__is_step cd__is_step ct__is_step : Value}
    {f__is_table_row : Addr} {od__is_table_row an__is_table_row : Option Addr} {sl__is_table_row : Array (Option Value)} {oc__is_table_row kV__is_table_row dc__is_table_row pm__is_table_row cd__is_table_row ct__is_table_row : Value}
    {f__check_table : Addr} {od__check_table an__check_table : Option Addr} {sl__check_table : Array (Option Value)} {oc__check_table kV__check_table dc__check_table pm__check_table cd__check_table ct__check_table : Value}
    {f_Machine_init : Addr} {od_Machine_init an_Machine_init : Option Addr} {sl_Machine_init : Array (Option Value)} {oc_Machine_init kV_Machine_init dc_Machine_init pm_Machine_init cd_Machine_init ct_Machine_init : Value}
    {f_is_ascending : Addr} {od_is_ascending an_is_ascending : Option Addr} {sl_is_ascending : Array (Option Value)} {oc_is_ascending kV_is_ascending dc_is_ascending pm_is_ascending cd_is_ascending ct_is_ascending : Value}
    {f_is_block : Addr} {od_is_block an_is_block : Option Addr} {sl_is_block : Array (Option Value)} {oc_is_block kV_is_block dc_is_block pm_is_block cd_is_block ct_is_block : Value}
    {f_check_stand : Addr} {od_check_stand an_check_stand : Option Addr} {sl_check_stand : Array (Option Value)} {oc_check_stand kV_check_stand dc_check_stand pm_check_stand cd_check_stand ct_check_stand : Value}
    {f_check_stands : Addr} {od_check_stands an_check_stands : Option Addr} {sl_check_stands : Array (Option Value)} {oc_check_stands kV_check_stands dc_check_stands pm_check_stands cd_check_stands ct_check_stands : Value}
    {f_check_aim : Addr} {od_check_aim an_check_aim : Option Addr} {sl_check_aim : Array (Option Value)} {oc_check_aim kV_check_aim dc_check_aim pm_check_aim cd_check_aim ct_check_aim : Value}
    {f_check_row : Addr} {od_check_row an_check_row : Option Addr} {sl_check_row : Array (Option Value)} {oc_check_row kV_check_row dc_check_row pm_check_row cd_check_row ct_check_row : Value}
    {f_walk : Addr} {od_walk an_walk : Option Addr} {sl_walk : Array (Option Value)} {oc_walk kV_walk dc_walk pm_walk cd_walk ct_walk : Value}
    {f_reaches : Addr} {od_reaches an_reaches : Option Addr} {sl_reaches : Array (Option Value)} {oc_reaches kV_reaches dc_reaches pm_reaches cd_reaches ct_reaches : Value}
    {f__law_mix : Addr} {od__law_mix an__law_mix : Option Addr} {sl__law_mix : Array (Option Value)} {oc__law_mix kV__law_mix dc__law_mix pm__law_mix cd__law_mix ct__law_mix : Value}
    {f__law_next : Addr} {od__law_next an__law_next : Option Addr} {sl__law_next : Array (Option Value)} {oc__law_next kV__law_next dc__law_next pm__law_next cd__law_next ct__law_next : Value}
    {f__law_pick : Addr} {od__law_pick an__law_pick : Option Addr} {sl__law_pick : Array (Option Value)} {oc__law_pick kV__law_pick dc__law_pick pm__law_pick cd__law_pick ct__law_pick : Value}
    {f__law_table : Addr} {od__law_table an__law_table : Option Addr} {sl__law_table : Array (Option Value)} {oc__law_table kV__law_table dc__law_table pm__law_table cd__law_table ct__law_table : Value}
    {f__law_stands : Addr} {od__law_stands an__law_stands : Option Addr} {sl__law_stands : Array (Option Value)} {oc__law_stands kV__law_stands dc__law_stands pm__law_stands cd__law_stands ct__law_stands : Value}
    {f__law_row : Addr} {od__law_row an__law_row : Option Addr} {sl__law_row : Array (Option Value)} {oc__law_row kV__law_row dc__law_row pm__law_row cd__law_row ct__law_row : Value}
    {f__law_walk : Addr} {od__law_walk an__law_walk : Option Addr} {sl__law_walk : Array (Option Value)} {oc__law_walk kV__law_walk dc__law_walk pm__law_walk cd__law_walk ct__law_walk : Value}
    {f__law_alike : Addr} {od__law_alike an__law_alike : Option Addr} {sl__law_alike : Array (Option Value)} {oc__law_alike kV__law_alike dc__law_alike pm__law_alike cd__law_alike ct__law_alike : Value}
    {f__law_reached : Addr} {od__law_reached an__law_reached : Option Addr} {sl__law_reached : Array (Option Value)} {oc__law_reached kV__law_reached dc__law_reached pm__law_reached cd__law_reached ct__law_reached : Value}
    {f_law : Addr} {od_law an_law : Option Addr} {sl_law : Array (Option Value)} {oc_law kV_law dc_law pm_law cd_law ct_law : Value}
    (z_set : PySem.W.nsIn K mainGlobals "set" = some none)
    (z_len : PySem.W.nsIn K mainGlobals "len" = some none)
    (z_isinstance : PySem.W.nsIn K mainGlobals "isinstance" = some none)
    (z_int : PySem.W.nsIn K mainGlobals "int" = some none)
    (z_bool : PySem.W.nsIn K mainGlobals "bool" = some none)
    (z_tuple : PySem.W.nsIn K mainGlobals "tuple" = some none)
    (z_list : PySem.W.nsIn K mainGlobals "list" = some none)
    (z_str : PySem.W.nsIn K mainGlobals "str" = some none)
    (z_range : PySem.W.nsIn K mainGlobals "range" = some none)
    (z_enumerate : PySem.W.nsIn K mainGlobals "enumerate" = some none)
    (z_max : PySem.W.nsIn K mainGlobals "max" = some none)
    (z_min : PySem.W.nsIn K mainGlobals "min" = some none)
    (z_all : PySem.W.nsIn K mainGlobals "all" = some none)
    (z_any : PySem.W.nsIn K mainGlobals "any" = some none)
    (z_sorted : PySem.W.nsIn K mainGlobals "sorted" = some none)
    (z_sum : PySem.W.nsIn K mainGlobals "sum" = some none)
    (z_zip : PySem.W.nsIn K mainGlobals "zip" = some none)
    (g_MOST_STANDS : PySem.W.nsIn K mainGlobals "MOST_STANDS" = some (some (.int 6 t_MOST_STANDS)))
    (g_WRITTEN_LETTERS : PySem.W.nsIn K mainGlobals "WRITTEN_LETTERS" = some (some (.int 4 t_WRITTEN_LETTERS)))
    (g_LONGEST_ROW : PySem.W.nsIn K mainGlobals "LONGEST_ROW" = some (some (.int 40 t_LONGEST_ROW)))
    (g_LETTER_COUNTS : PySem.W.nsIn K mainGlobals "LETTER_COUNTS" = some (some (.ref a_LETTER_COUNTS)))
    (o_LETTER_COUNTS : K.lookup a_LETTER_COUNTS = some ⟨.type "tuple", dd_LETTER_COUNTS, .seq #[.int 2 t0_LETTER_COUNTS, .int 3 t1_LETTER_COUNTS] n_LETTER_COUNTS, sl_LETTER_COUNTS⟩)
    (g_ROW_AIMS : PySem.W.nsIn K mainGlobals "ROW_AIMS" = some (some (.ref a_ROW_AIMS)))
    (o_ROW_AIMS : K.lookup a_ROW_AIMS = some ⟨.type "tuple", dd_ROW_AIMS, .seq #[.str "first" t0_ROW_AIMS, .str "last" t1_ROW_AIMS, .str "home" t2_ROW_AIMS] n_ROW_AIMS, sl_ROW_AIMS⟩)
    (aC : PySem.W.nsIn K mainGlobals "Machine" = some (some (.ref C)))
    (pgC : PySem.W.plainGet K C Str.empty = true)
    (hdC : PySem.W.hasDictIn K C = true)
    (poC : PySem.W.plainOver K C = true)
    (saC : PySem.W.findIn K (.ref C) "__setattr__" = some (some (.builtin "object.__setattr__")))
    (mkC : PySem.W.makesIn K C = true)
    (kcC : PySem.W.keepIn K (.ref C) = true)
    (n__table : PySem.W.findIn K (.ref C) "_table" = some none)
    (pa1_Machine_table : PySem.W.findIn K (.ref C) "table" = some (some (.ref pa_Machine_table)))
    (pa2_Machine_table : PySem.W.specialIn K (.ref pa_Machine_table) "__get__" = some (some (.builtin "property.__get__")))
    (pa3_Machine_table : PySem.W.takesIn K (.ref pa_Machine_table) = some true)
    (pa4_Machine_table : PySem.W.recIn K pa_Machine_table "property" = some (.ref f_Machine_table :: rest_Machine_table))
    (l_Machine_table : K.lookup f_Machine_table = some ⟨oc_Machine_table, od_Machine_table, .func (PySem.W.fnOf "table" "Machine.table" (defArgs s_Machine_table) (defBody s_Machine_table) (defScope s_Machine_table) .none kV_Machine_table dc_Machine_table pm_Machine_table an_Machine_table cd_Machine_table ct_Machine_table), sl_Machine_table⟩)
    (c_Machine_table : PySem.W.codeIn K cd_Machine_table "Machine.table" = true)
    (k_Machine_table : PySem.W.keepIn K (.ref f_Machine_table) = true)
    (pa1_Machine_letters : PySem.W.findIn K (.ref C) "letters" = some (some (.ref pa_Machine_letters)))
    (pa2_Machine_letters : PySem.W.specialIn K (.ref pa_Machine_letters) "__get__" = some (some (.builtin "property.__get__")))
    (pa3_Machine_letters : PySem.W.takesIn K (.ref pa_Machine_letters) = some true)
    (pa4_Machine_letters : PySem.W.recIn K pa_Machine_letters "property" = some (.ref f_Machine_letters :: rest_Machine_letters))
    (l_Machine_letters : K.lookup f_Machine_letters = some ⟨oc_Machine_letters, od_Machine_letters, .func (PySem.W.fnOf "letters" "Machine.letters" (defArgs s_Machine_letters) (defBody s_Machine_letters) (defScope s_Machine_letters) .none kV_Machine_letters dc_Machine_letters pm_Machine_letters an_Machine_letters cd_Machine_letters ct_Machine_letters), sl_Machine_letters⟩)
    (c_Machine_letters : PySem.W.codeIn K cd_Machine_letters "Machine.letters" = true)
    (k_Machine_letters : PySem.W.keepIn K (.ref f_Machine_letters) = true)
    (m1_Machine_len : PySem.W.findIn K (.ref C) "__len__" = some (some (.ref f_Machine_len)))
    (l_Machine_len : K.lookup f_Machine_len = some ⟨oc_Machine_len, od_Machine_len, .func (PySem.W.fnOf "__len__" "Machine.__len__" (defArgs s_Machine_len) (defBody s_Machine_len) (defScope s_Machine_len) .none kV_Machine_len dc_Machine_len pm_Machine_len an_Machine_len cd_Machine_len ct_Machine_len), sl_Machine_len⟩)
    (c_Machine_len : PySem.W.codeIn K cd_Machine_len "Machine.__len__" = true)
    (k_Machine_len : PySem.W.keepIn K (.ref f_Machine_len) = true)
    (m2_Machine_len : PySem.W.isFn K (.ref f_Machine_len) = true)
    (a_is_below : PySem.W.nsIn K mainGlobals "is_below" = some (some (.ref f_is_below)))
    (l_is_below : K.lookup f_is_below = some ⟨oc_is_below, od_is_below, .func (PySem.W.fnOf "is_below" "is_below" (defArgs s_is_below) (defBody s_is_below) (defScope s_is_below) .none kV_is_below dc_is_below pm_is_below an_is_below cd_is_below ct_is_below), sl_is_below⟩)
    (c_is_below : PySem.W.codeIn K cd_is_below "is_below" = true)
    (k_is_below : PySem.W.keepIn K (.ref f_is_below) = true)
    (a__is_step : PySem.W.nsIn K mainGlobals "_is_step" = some (some (.ref f__is_step)))
    (l__is_step : K.lookup f__is_step = some ⟨oc__is_step, od__is_step, .func (PySem.W.fnOf "_is_step" "_is_step" (defArgs s__is_step) (defBody s__is_step) (defScope s__is_step) .none kV__is_step dc__is_step pm__is_step an__is_step cd__is_step ct__is_step), sl__is_step⟩)
    (c__is_step : PySem.W.codeIn K cd__is_step "_is_step" = true)
    (k__is_step : PySem.W.keepIn K (.ref f__is_step) = true)
    (a__is_table_row : PySem.W.nsIn K mainGlobals "_is_table_row" = some (some (.ref f__is_table_row)))
    (l__is_table_row : K.lookup f__is_table_row = some ⟨oc__is_table_row, od__is_table_row, .func (PySem.W.fnOf "_is_table_row" "_is_table_row" (defArgs s__is_table_row) (defBody s__is_table_row) (defScope s__is_table_row) .none kV__is_table_row dc__is_table_row pm__is_table_row an__is_table_row cd__is_table_row ct__is_table_row), sl__is_table_row⟩)
    (c__is_table_row : PySem.W.codeIn K cd__is_table_row "_is_table_row" = true)
    (k__is_table_row : PySem.W.keepIn K (.ref f__is_table_row) = true)
    (a__check_table : PySem.W.nsIn K mainGlobals "_check_table" = some (some (.ref f__check_table)))
    (l__check_table : K.lookup f__check_table = some ⟨oc__check_table, od__check_table, .func (PySem.W.fnOf "_check_table" "_check_table" (defArgs s__check_table) (defBody s__check_table) (defScope s__check_table) .none kV__check_table dc__check_table pm__check_table an__check_table cd__check_table ct__check_table), sl__check_table⟩)
    (c__check_table : PySem.W.codeIn K cd__check_table "_check_table" = true)
    (k__check_table : PySem.W.keepIn K (.ref f__check_table) = true)
    (m1_Machine_init : PySem.W.findIn K (.ref C) "__init__" = some (some (.ref f_Machine_init)))
    (l_Machine_init : K.lookup f_Machine_init = some ⟨oc_Machine_init, od_Machine_init, .func (PySem.W.fnOf "__init__" "Machine.__init__" (defArgs s_Machine_init) (defBody s_Machine_init) (defScope s_Machine_init) .none kV_Machine_init dc_Machine_init pm_Machine_init an_Machine_init cd_Machine_init ct_Machine_init), sl_Machine_init⟩)
    (c_Machine_init : PySem.W.codeIn K cd_Machine_init "Machine.__init__" = true)
    (k_Machine_init : PySem.W.keepIn K (.ref f_Machine_init) = true)
    (m2_Machine_init : PySem.W.isFn K (.ref f_Machine_init) = true)
    (a_is_ascending : PySem.W.nsIn K mainGlobals "is_ascending" = some (some (.ref f_is_ascending)))
    (l_is_ascending : K.lookup f_is_ascending = some ⟨oc_is_ascending, od_is_ascending, .func (PySem.W.fnOf "is_ascending" "is_ascending" (defArgs s_is_ascending) (defBody s_is_ascending) (defScope s_is_ascending) .none kV_is_ascending dc_is_ascending pm_is_ascending an_is_ascending cd_is_ascending ct_is_ascending), sl_is_ascending⟩)
    (c_is_ascending : PySem.W.codeIn K cd_is_ascending "is_ascending" = true)
    (k_is_ascending : PySem.W.keepIn K (.ref f_is_ascending) = true)
    (a_is_block : PySem.W.nsIn K mainGlobals "is_block" = some (some (.ref f_is_block)))
    (l_is_block : K.lookup f_is_block = some ⟨oc_is_block, od_is_block, .func (PySem.W.fnOf "is_block" "is_block" (defArgs s_is_block) (defBody s_is_block) (defScope s_is_block) .none kV_is_block dc_is_block pm_is_block an_is_block cd_is_block ct_is_block), sl_is_block⟩)
    (c_is_block : PySem.W.codeIn K cd_is_block "is_block" = true)
    (k_is_block : PySem.W.keepIn K (.ref f_is_block) = true)
    (a_check_stand : PySem.W.nsIn K mainGlobals "check_stand" = some (some (.ref f_check_stand)))
    (l_check_stand : K.lookup f_check_stand = some ⟨oc_check_stand, od_check_stand, .func (PySem.W.fnOf "check_stand" "check_stand" (defArgs s_check_stand) (defBody s_check_stand) (defScope s_check_stand) .none kV_check_stand dc_check_stand pm_check_stand an_check_stand cd_check_stand ct_check_stand), sl_check_stand⟩)
    (c_check_stand : PySem.W.codeIn K cd_check_stand "check_stand" = true)
    (k_check_stand : PySem.W.keepIn K (.ref f_check_stand) = true)
    (a_check_stands : PySem.W.nsIn K mainGlobals "check_stands" = some (some (.ref f_check_stands)))
    (l_check_stands : K.lookup f_check_stands = some ⟨oc_check_stands, od_check_stands, .func (PySem.W.fnOf "check_stands" "check_stands" (defArgs s_check_stands) (defBody s_check_stands) (defScope s_check_stands) .none kV_check_stands dc_check_stands pm_check_stands an_check_stands cd_check_stands ct_check_stands), sl_check_stands⟩)
    (c_check_stands : PySem.W.codeIn K cd_check_stands "check_stands" = true)
    (k_check_stands : PySem.W.keepIn K (.ref f_check_stands) = true)
    (a_check_aim : PySem.W.nsIn K mainGlobals "check_aim" = some (some (.ref f_check_aim)))
    (l_check_aim : K.lookup f_check_aim = some ⟨oc_check_aim, od_check_aim, .func (PySem.W.fnOf "check_aim" "check_aim" (defArgs s_check_aim) (defBody s_check_aim) (defScope s_check_aim) .none kV_check_aim dc_check_aim pm_check_aim an_check_aim cd_check_aim ct_check_aim), sl_check_aim⟩)
    (c_check_aim : PySem.W.codeIn K cd_check_aim "check_aim" = true)
    (k_check_aim : PySem.W.keepIn K (.ref f_check_aim) = true)
    (a_check_row : PySem.W.nsIn K mainGlobals "check_row" = some (some (.ref f_check_row)))
    (l_check_row : K.lookup f_check_row = some ⟨oc_check_row, od_check_row, .func (PySem.W.fnOf "check_row" "check_row" (defArgs s_check_row) (defBody s_check_row) (defScope s_check_row) .none kV_check_row dc_check_row pm_check_row an_check_row cd_check_row ct_check_row), sl_check_row⟩)
    (c_check_row : PySem.W.codeIn K cd_check_row "check_row" = true)
    (k_check_row : PySem.W.keepIn K (.ref f_check_row) = true)
    (a_walk : PySem.W.nsIn K mainGlobals "walk" = some (some (.ref f_walk)))
    (l_walk : K.lookup f_walk = some ⟨oc_walk, od_walk, .func (PySem.W.fnOf "walk" "walk" (defArgs s_walk) (defBody s_walk) (defScope s_walk) .none kV_walk dc_walk pm_walk an_walk cd_walk ct_walk), sl_walk⟩)
    (c_walk : PySem.W.codeIn K cd_walk "walk" = true)
    (k_walk : PySem.W.keepIn K (.ref f_walk) = true)
    (a_reaches : PySem.W.nsIn K mainGlobals "reaches" = some (some (.ref f_reaches)))
    (l_reaches : K.lookup f_reaches = some ⟨oc_reaches, od_reaches, .func (PySem.W.fnOf "reaches" "reaches" (defArgs s_reaches) (defBody s_reaches) (defScope s_reaches) .none kV_reaches dc_reaches pm_reaches an_reaches cd_reaches ct_reaches), sl_reaches⟩)
    (c_reaches : PySem.W.codeIn K cd_reaches "reaches" = true)
    (k_reaches : PySem.W.keepIn K (.ref f_reaches) = true)
    (a__law_mix : PySem.W.nsIn K mainGlobals "_law_mix" = some (some (.ref f__law_mix)))
    (l__law_mix : K.lookup f__law_mix = some ⟨oc__law_mix, od__law_mix, .func (PySem.W.fnOf "_law_mix" "_law_mix" (defArgs s__law_mix) (defBody s__law_mix) (defScope s__law_mix) .none kV__law_mix dc__law_mix pm__law_mix an__law_mix cd__law_mix ct__law_mix), sl__law_mix⟩)
    (c__law_mix : PySem.W.codeIn K cd__law_mix "_law_mix" = true)
    (k__law_mix : PySem.W.keepIn K (.ref f__law_mix) = true)
    (a__law_next : PySem.W.nsIn K mainGlobals "_law_next" = some (some (.ref f__law_next)))
    (l__law_next : K.lookup f__law_next = some ⟨oc__law_next, od__law_next, .func (PySem.W.fnOf "_law_next" "_law_next" (defArgs s__law_next) (defBody s__law_next) (defScope s__law_next) .none kV__law_next dc__law_next pm__law_next an__law_next cd__law_next ct__law_next), sl__law_next⟩)
    (c__law_next : PySem.W.codeIn K cd__law_next "_law_next" = true)
    (k__law_next : PySem.W.keepIn K (.ref f__law_next) = true)
    (a__law_pick : PySem.W.nsIn K mainGlobals "_law_pick" = some (some (.ref f__law_pick)))
    (l__law_pick : K.lookup f__law_pick = some ⟨oc__law_pick, od__law_pick, .func (PySem.W.fnOf "_law_pick" "_law_pick" (defArgs s__law_pick) (defBody s__law_pick) (defScope s__law_pick) .none kV__law_pick dc__law_pick pm__law_pick an__law_pick cd__law_pick ct__law_pick), sl__law_pick⟩)
    (c__law_pick : PySem.W.codeIn K cd__law_pick "_law_pick" = true)
    (k__law_pick : PySem.W.keepIn K (.ref f__law_pick) = true)
    (a__law_table : PySem.W.nsIn K mainGlobals "_law_table" = some (some (.ref f__law_table)))
    (l__law_table : K.lookup f__law_table = some ⟨oc__law_table, od__law_table, .func (PySem.W.fnOf "_law_table" "_law_table" (defArgs s__law_table) (defBody s__law_table) (defScope s__law_table) .none kV__law_table dc__law_table pm__law_table an__law_table cd__law_table ct__law_table), sl__law_table⟩)
    (c__law_table : PySem.W.codeIn K cd__law_table "_law_table" = true)
    (k__law_table : PySem.W.keepIn K (.ref f__law_table) = true)
    (a__law_stands : PySem.W.nsIn K mainGlobals "_law_stands" = some (some (.ref f__law_stands)))
    (l__law_stands : K.lookup f__law_stands = some ⟨oc__law_stands, od__law_stands, .func (PySem.W.fnOf "_law_stands" "_law_stands" (defArgs s__law_stands) (defBody s__law_stands) (defScope s__law_stands) .none kV__law_stands dc__law_stands pm__law_stands an__law_stands cd__law_stands ct__law_stands), sl__law_stands⟩)
    (c__law_stands : PySem.W.codeIn K cd__law_stands "_law_stands" = true)
    (k__law_stands : PySem.W.keepIn K (.ref f__law_stands) = true)
    (a__law_row : PySem.W.nsIn K mainGlobals "_law_row" = some (some (.ref f__law_row)))
    (l__law_row : K.lookup f__law_row = some ⟨oc__law_row, od__law_row, .func (PySem.W.fnOf "_law_row" "_law_row" (defArgs s__law_row) (defBody s__law_row) (defScope s__law_row) .none kV__law_row dc__law_row pm__law_row an__law_row cd__law_row ct__law_row), sl__law_row⟩)
    (c__law_row : PySem.W.codeIn K cd__law_row "_law_row" = true)
    (k__law_row : PySem.W.keepIn K (.ref f__law_row) = true)
    (a__law_walk : PySem.W.nsIn K mainGlobals "_law_walk" = some (some (.ref f__law_walk)))
    (l__law_walk : K.lookup f__law_walk = some ⟨oc__law_walk, od__law_walk, .func (PySem.W.fnOf "_law_walk" "_law_walk" (defArgs s__law_walk) (defBody s__law_walk) (defScope s__law_walk) .none kV__law_walk dc__law_walk pm__law_walk an__law_walk cd__law_walk ct__law_walk), sl__law_walk⟩)
    (c__law_walk : PySem.W.codeIn K cd__law_walk "_law_walk" = true)
    (k__law_walk : PySem.W.keepIn K (.ref f__law_walk) = true)
    (a__law_alike : PySem.W.nsIn K mainGlobals "_law_alike" = some (some (.ref f__law_alike)))
    (l__law_alike : K.lookup f__law_alike = some ⟨oc__law_alike, od__law_alike, .func (PySem.W.fnOf "_law_alike" "_law_alike" (defArgs s__law_alike) (defBody s__law_alike) (defScope s__law_alike) .none kV__law_alike dc__law_alike pm__law_alike an__law_alike cd__law_alike ct__law_alike), sl__law_alike⟩)
    (c__law_alike : PySem.W.codeIn K cd__law_alike "_law_alike" = true)
    (k__law_alike : PySem.W.keepIn K (.ref f__law_alike) = true)
    (a__law_reached : PySem.W.nsIn K mainGlobals "_law_reached" = some (some (.ref f__law_reached)))
    (l__law_reached : K.lookup f__law_reached = some ⟨oc__law_reached, od__law_reached, .func (PySem.W.fnOf "_law_reached" "_law_reached" (defArgs s__law_reached) (defBody s__law_reached) (defScope s__law_reached) .none kV__law_reached dc__law_reached pm__law_reached an__law_reached cd__law_reached ct__law_reached), sl__law_reached⟩)
    (c__law_reached : PySem.W.codeIn K cd__law_reached "_law_reached" = true)
    (k__law_reached : PySem.W.keepIn K (.ref f__law_reached) = true)
    (a_law : PySem.W.nsIn K mainGlobals "law" = some (some (.ref f_law)))
    (l_law : K.lookup f_law = some ⟨oc_law, od_law, .func (PySem.W.fnOf "law" "law" (defArgs s_law) (defBody s_law) (defScope s_law) .none kV_law dc_law pm_law an_law cd_law ct_law), sl_law⟩)
    (c_law : PySem.W.codeIn K cd_law "law" = true)
    (k_law : PySem.W.keepIn K (.ref f_law) = true)
    : ∃ fd : FuncData, (∀ (s : Shared) (v : Value), BindsTo s fd ⟨[v], []⟩ [("_law_script", v)]) ∧ ∀ base : Heap, K.In base → base.Ns mainGlobals mg → FnOk l.prog w K mg base CX0 7 fa fd ["_law_script"] (spLaw K) := by
  have e := hfa.symm.trans (PySem.W.mg_of X G a_law)
  cases e
  refine ⟨PySem.W.fnOf "law" "law" (defArgs s_law) (defBody s_law) (defScope s_law) .none kV_law dc_law pm_law an_law cd_law ct_law, fun s v => .of_eq rfl, fun base _ _ => ?_⟩
  have B : Blt mg := ⟨PySem.W.mg_none_of X G z_set, PySem.W.mg_none_of X G z_len, PySem.W.mg_none_of X G z_isinstance, PySem.W.mg_none_of X G z_int, PySem.W.mg_none_of X G z_bool, PySem.W.mg_none_of X G z_tuple, PySem.W.mg_none_of X G z_list, PySem.W.mg_none_of X G z_str, PySem.W.mg_none_of X G z_range, PySem.W.mg_none_of X G z_enumerate, PySem.W.mg_none_of X G z_max, PySem.W.mg_none_of X G z_min, PySem.W.mg_none_of X G z_all, PySem.W.mg_none_of X G z_any, PySem.W.mg_none_of X G z_sorted, PySem.W.mg_none_of X G z_sum, PySem.W.mg_none_of X G z_zip⟩
  have gi_MOST_STANDS := PySem.W.mg_of X G g_MOST_STANDS
  have gi_WRITTEN_LETTERS := PySem.W.mg_of X G g_WRITTEN_LETTERS
  have gi_LONGEST_ROW := PySem.W.mg_of X G g_LONGEST_ROW
  have gr_LETTER_COUNTS := PySem.W.mg_of X G g_LETTER_COUNTS
  have h_LETTER_COUNTS : ∀ H : Hp, SqT K H a_LETTER_COUNTS [.int 2, .int 3] := fun H => .inr ⟨_, _, _, o_LETTER_COUNTS, rfl, rfl, (by show 2 ≤ sizeLine; decide), (.cons ⟨_, rfl⟩ (.cons ⟨_, rfl⟩ .nil))⟩
  have gr_ROW_AIMS := PySem.W.mg_of X G g_ROW_AIMS
  have h_ROW_AIMS : ∀ H : Hp, SqT K H a_ROW_AIMS [.str "first", .str "last", .str "home"] := fun H => .inr ⟨_, _, _, o_ROW_AIMS, rfl, rfl, (by show 3 ≤ sizeLine; decide), (.cons ⟨_, rfl⟩ (.cons ⟨_, rfl⟩ (.cons ⟨_, rfl⟩ .nil)))⟩
  have T : Txt K C := ⟨⟨pgC, hdC, poC, saC⟩, n__table⟩
  have F_Machine_table := fun_mk (st := s_Machine_table) l_Machine_table c_Machine_table k_Machine_table
  have p_table : PropK l.prog w K mg base 1 C "table" (spMGet K C) := ⟨T.cl, pa_Machine_table, f_Machine_table, _, ⟨pa1_Machine_table, pa2_Machine_table, pa3_Machine_table, rest_Machine_table, pa4_Machine_table⟩, ok_Machine_table F_Machine_table T, F_Machine_table.binds (ps := ["self"]) fun _ _ _ _ _ _ us hl => match us, hl with | [_], _ => rfl⟩
  have F_Machine_letters := fun_mk (st := s_Machine_letters) l_Machine_letters c_Machine_letters k_Machine_letters
  have p_letters : PropK l.prog w K mg base 1 C "letters" (spMLet K C) := ⟨T.cl, pa_Machine_letters, f_Machine_letters, _, ⟨pa1_Machine_letters, pa2_Machine_letters, pa3_Machine_letters, rest_Machine_letters, pa4_Machine_letters⟩, ok_Machine_letters F_Machine_letters T B, F_Machine_letters.binds (ps := ["self"]) fun _ _ _ _ _ _ us hl => match us, hl with | [_], _ => rfl⟩
  have F_Machine_len := fun_mk (st := s_Machine_len) l_Machine_len c_Machine_len k_Machine_len
  have l_Machine : LenK l.prog w K mg base 1 C (spMLen K C) := ⟨f_Machine_len, _, m1_Machine_len, m2_Machine_len, ok_Machine_len F_Machine_len T B, F_Machine_len.binds (ps := ["self"]) fun _ _ _ _ _ _ us hl => match us, hl with | [_], _ => rfl⟩
  have F_is_below := fun_mk (st := s_is_below) l_is_below c_is_below k_is_below
  have bd_is_below := F_is_below.binds (ps := P_is_below) fun _ _ _ _ _ _ us hl => match us, hl with | [_, _], _ => rfl
  have mg_is_below := PySem.W.mg_of X G a_is_below
  have G_is_below : DefK l.prog w K mg base CX0 1 "is_below" P_is_below (spBelow K) := ⟨f_is_below, _, ok_is_below F_is_below B, mg_is_below, k_is_below, bd_is_below⟩
  have F__is_step := fun_mk (st := s__is_step) l__is_step c__is_step k__is_step
  have bd__is_step := F__is_step.binds (ps := P__is_step) fun _ _ _ _ _ _ us hl => match us, hl with | [_, _], _ => rfl
  have mg__is_step := PySem.W.mg_of X G a__is_step
  have G__is_step : DefK l.prog w K mg base CX0 2 "_is_step" P__is_step (spStep K) := ⟨f__is_step, _, ok_is_step F__is_step B gi_WRITTEN_LETTERS G_is_below, mg__is_step, k__is_step, bd__is_step⟩
  have F__is_table_row := fun_mk (st := s__is_table_row) l__is_table_row c__is_table_row k__is_table_row
  have bd__is_table_row := F__is_table_row.binds (ps := P__is_table_row) fun _ _ _ _ _ _ us hl => match us, hl with | [_, _], _ => rfl
  have mg__is_table_row := PySem.W.mg_of X G a__is_table_row
  have G__is_table_row : DefK l.prog w K mg base CX0 3 "_is_table_row" P__is_table_row (spRowOk K) := ⟨f__is_table_row, _, ok_is_table_row F__is_table_row B gr_LETTER_COUNTS h_LETTER_COUNTS G__is_step, mg__is_table_row, k__is_table_row, bd__is_table_row⟩
  have F__check_table := fun_mk (st := s__check_table) l__check_table c__check_table k__check_table
  have bd__check_table := F__check_table.binds (ps := P__check_table) fun _ _ _ _ _ _ us hl => match us, hl with | [_], _ => rfl
  have mg__check_table := PySem.W.mg_of X G a__check_table
  have G__check_table : DefK l.prog w K mg base CX0 4 "_check_table" P__check_table (spTabOk K) := ⟨f__check_table, _, ok_check_table F__check_table B gi_MOST_STANDS G__is_table_row, mg__check_table, k__check_table, bd__check_table⟩
  have F_Machine_init := fun_mk (st := s_Machine_init) l_Machine_init c_Machine_init k_Machine_init
  have m_Machine : MkK l.prog w K mg base CX0 5 C "Machine" P_Machine_init (spMInit K C) := ⟨PySem.W.mg_of X G aC, f_Machine_init, _, ⟨mkC, m1_Machine_init, m2_Machine_init, kcC⟩, ok_Machine_init F_Machine_init T G__check_table, F_Machine_init.binds (ps := P_Machine_init) fun _ _ _ _ _ _ us hl => match us, hl with | [_, _], _ => rfl⟩
  have F_is_ascending := fun_mk (st := s_is_ascending) l_is_ascending c_is_ascending k_is_ascending
  have bd_is_ascending := F_is_ascending.binds (ps := P_is_ascending) fun _ _ _ _ _ _ us hl => match us, hl with | [_], _ => rfl
  have mg_is_ascending := PySem.W.mg_of X G a_is_ascending
  have G_is_ascending : DefK l.prog w K mg base CX0 1 "is_ascending" P_is_ascending (spAsc K) := ⟨f_is_ascending, _, ok_is_ascending F_is_ascending B, mg_is_ascending, k_is_ascending, bd_is_ascending⟩
  have F_is_block := fun_mk (st := s_is_block) l_is_block c_is_block k_is_block
  have bd_is_block := F_is_block.binds (ps := P_is_block) fun _ _ _ _ _ _ us hl => match us, hl with | [_, _], _ => rfl
  have mg_is_block := PySem.W.mg_of X G a_is_block
  have G_is_block : DefK l.prog w K mg base CX0 3 "is_block" P_is_block (spBlock K C) := ⟨f_is_block, _, ok_is_block F_is_block B G_is_below G_is_ascending l_Machine, mg_is_block, k_is_block, bd_is_block⟩
  have F_check_stand := fun_mk (st := s_check_stand) l_check_stand c_check_stand k_check_stand
  have bd_check_stand := F_check_stand.binds (ps := P_check_stand) fun _ _ _ _ _ _ us hl => match us, hl with | [_, _], _ => rfl
  have mg_check_stand := PySem.W.mg_of X G a_check_stand
  have G_check_stand : DefK l.prog w K mg base CX0 3 "check_stand" P_check_stand (spStandOk K C) := ⟨f_check_stand, _, ok_check_stand F_check_stand B G_is_below l_Machine, mg_check_stand, k_check_stand, bd_check_stand⟩
  have F_check_stands := fun_mk (st := s_check_stands) l_check_stands c_check_stands k_check_stands
  have bd_check_stands := F_check_stands.binds (ps := P_check_stands) fun _ _ _ _ _ _ us hl => match us, hl with | [_, _], _ => rfl
  have mg_check_stands := PySem.W.mg_of X G a_check_stands
  have G_check_stands : DefK l.prog w K mg base CX0 4 "check_stands" P_check_stands (spStandsOk K C) := ⟨f_check_stands, _, ok_check_stands F_check_stands B G_is_block, mg_check_stands, k_check_stands, bd_check_stands⟩
  have F_check_aim := fun_mk (st := s_check_aim) l_check_aim c_check_aim k_check_aim
  have bd_check_aim := F_check_aim.binds (ps := P_check_aim) fun _ _ _ _ _ _ us hl => match us, hl with | [_, _], _ => rfl
  have mg_check_aim := PySem.W.mg_of X G a_check_aim
  have G_check_aim : DefK l.prog w K mg base CX0 1 "check_aim" P_check_aim (spAimOk K) := ⟨f_check_aim, _, ok_check_aim F_check_aim B, mg_check_aim, k_check_aim, bd_check_aim⟩
  have F_check_row := fun_mk (st := s_check_row) l_check_row c_check_row k_check_row
  have bd_check_row := F_check_row.binds (ps := P_check_row) fun _ _ _ _ _ _ us hl => match us, hl with | [_, _], _ => rfl
  have mg_check_row := PySem.W.mg_of X G a_check_row
  have G_check_row : DefK l.prog w K mg base CX0 3 "check_row" P_check_row (spRowGood K C) := ⟨f_check_row, _, ok_check_row F_check_row B gi_LONGEST_ROW G_is_below p_letters, mg_check_row, k_check_row, bd_check_row⟩
  have F_walk := fun_mk (st := s_walk) l_walk c_walk k_walk
  have bd_walk := F_walk.binds (ps := P_walk) fun _ _ _ _ _ _ us hl => match us, hl with | [_, _, _], _ => rfl
  have mg_walk := PySem.W.mg_of X G a_walk
  have G_walk : DefK l.prog w K mg base CX0 4 "walk" P_walk (spWalk K C) := ⟨f_walk, _, ok_walk F_walk B G_check_stand G_check_row p_table, mg_walk, k_walk, bd_walk⟩
  have F_reaches := fun_mk (st := s_reaches) l_reaches c_reaches k_reaches
  have bd_reaches := F_reaches.binds (ps := P_reaches) fun _ _ _ _ _ _ us hl => match us, hl with | [_, _, _, _], _ => rfl
  have mg_reaches := PySem.W.mg_of X G a_reaches
  have G_reaches : DefK l.prog w K mg base CX0 5 "reaches" P_reaches (spReaches K C) := ⟨f_reaches, _, ok_reaches F_reaches B G_check_stands G_check_aim G_check_row G_walk gr_ROW_AIMS h_ROW_AIMS, mg_reaches, k_reaches, bd_reaches⟩
  have F__law_mix := fun_mk (st := s__law_mix) l__law_mix c__law_mix k__law_mix
  have bd__law_mix := F__law_mix.binds (ps := P__law_mix) fun _ _ _ _ _ _ us hl => match us, hl with | [_, _], _ => rfl
  have mg__law_mix := PySem.W.mg_of X G a__law_mix
  have G__law_mix : DefK l.prog w K mg base CX0 1 "_law_mix" P__law_mix (spMix K) := ⟨f__law_mix, _, ok_law_mix F__law_mix B, mg__law_mix, k__law_mix, bd__law_mix⟩
  have F__law_next := fun_mk (st := s__law_next) l__law_next c__law_next k__law_next
  have bd__law_next := F__law_next.binds (ps := P__law_next) fun _ _ _ _ _ _ us hl => match us, hl with | [_, _], _ => rfl
  have mg__law_next := PySem.W.mg_of X G a__law_next
  have G__law_next : DefK l.prog w K mg base CX0 1 "_law_next" P__law_next (spNext) := ⟨f__law_next, _, ok_law_next F__law_next B, mg__law_next, k__law_next, bd__law_next⟩
  have F__law_pick := fun_mk (st := s__law_pick) l__law_pick c__law_pick k__law_pick
  have bd__law_pick := F__law_pick.binds (ps := P__law_pick) fun _ _ _ _ _ _ us hl => match us, hl with | [_, _], _ => rfl
  have mg__law_pick := PySem.W.mg_of X G a__law_pick
  have G__law_pick : DefK l.prog w K mg base CX0 2 "_law_pick" P__law_pick (spPick) := ⟨f__law_pick, _, ok_law_pick F__law_pick B G__law_next, mg__law_pick, k__law_pick, bd__law_pick⟩
  have F__law_table := fun_mk (st := s__law_table) l__law_table c__law_table k__law_table
  have bd__law_table := F__law_table.binds (ps := P__law_table) fun _ _ _ _ _ _ us hl => match us, hl with | [_], _ => rfl
  have mg__law_table := PySem.W.mg_of X G a__law_table
  have G__law_table : DefK l.prog w K mg base CX0 3 "_law_table" P__law_table (spTable K) := ⟨f__law_table, _, ok_law_table F__law_table B G__law_next G__law_pick, mg__law_table, k__law_table, bd__law_table⟩
  have F__law_stands := fun_mk (st := s__law_stands) l__law_stands c__law_stands k__law_stands
  have bd__law_stands := F__law_stands.binds (ps := P__law_stands) fun _ _ _ _ _ _ us hl => match us, hl with | [_, _], _ => rfl
  have mg__law_stands := PySem.W.mg_of X G a__law_stands
  have G__law_stands : DefK l.prog w K mg base CX0 2 "_law_stands" P__law_stands (spStands K) := ⟨f__law_stands, _, ok_law_stands F__law_stands B G__law_next, mg__law_stands, k__law_stands, bd__law_stands⟩
  have F__law_row := fun_mk (st := s__law_row) l__law_row c__law_row k__law_row
  have bd__law_row := F__law_row.binds (ps := P__law_row) fun _ _ _ _ _ _ us hl => match us, hl with | [_, _, _], _ => rfl
  have mg__law_row := PySem.W.mg_of X G a__law_row
  have G__law_row : DefK l.prog w K mg base CX0 2 "_law_row" P__law_row (spLRow K) := ⟨f__law_row, _, ok_law_row F__law_row B G__law_next, mg__law_row, k__law_row, bd__law_row⟩
  have F__law_walk := fun_mk (st := s__law_walk) l__law_walk c__law_walk k__law_walk
  have bd__law_walk := F__law_walk.binds (ps := P__law_walk) fun _ _ _ _ _ _ us hl => match us, hl with | [_, _, _], _ => rfl
  have mg__law_walk := PySem.W.mg_of X G a__law_walk
  have G__law_walk : DefK l.prog w K mg base CX0 1 "_law_walk" P__law_walk (spLWalk K) := ⟨f__law_walk, _, ok_law_walk F__law_walk B, mg__law_walk, k__law_walk, bd__law_walk⟩
  have F__law_alike := fun_mk (st := s__law_alike) l__law_alike c__law_alike k__law_alike
  have bd__law_alike := F__law_alike.binds (ps := P__law_alike) fun _ _ _ _ _ _ us hl => match us, hl with | [_, _], _ => rfl
  have mg__law_alike := PySem.W.mg_of X G a__law_alike
  have G__law_alike : DefK l.prog w K mg base CX0 3 "_law_alike" P__law_alike (spAlike K 3) := ⟨f__law_alike, _, ok_law_alike F__law_alike B mg__law_alike bd__law_alike 3, mg__law_alike, k__law_alike, bd__law_alike⟩
  have F__law_reached := fun_mk (st := s__law_reached) l__law_reached c__law_reached k__law_reached
  have bd__law_reached := F__law_reached.binds (ps := P__law_reached) fun _ _ _ _ _ _ us hl => match us, hl with | [_, _, _, _], _ => rfl
  have mg__law_reached := PySem.W.mg_of X G a__law_reached
  have G__law_reached : DefK l.prog w K mg base CX0 2 "_law_reached" P__law_reached (spReached K) := ⟨f__law_reached, _, ok_law_reached F__law_reached B G__law_walk, mg__law_reached, k__law_reached, bd__law_reached⟩
  exact ok_law (fun_mk (st := s_law) l_law c_law k_law) B G__law_mix G__law_next G__law_pick G__law_table G__law_stands G__law_row G__law_reached G__law_alike G_reaches m_Machine
theorem walk_law {l : PySem.W.OpenLaw} {q : Program} {loose : List Str} {XP : (Str → Option Value) → Heap → Prop} {YP : World → Heap → Prop} {d : DefRec} {K : Params → PySem.W.Frag} (hn : l.most = some 63) (hdf : d.params.defaults = [])
    (hY : ∀ (w : World) (h : Heap), YP w h → (K w.params).In h)
    (F : ∀ (w : World) (mg : Str → Option Value) (fa : Addr) (h : Heap), (K w.params).In h → h.Ns mainGlobals mg → mg d.name = some (.ref fa) →
      ∃ fd : FuncData, (∀ (s : Shared) (u : Value), BindsTo s fd ⟨[u], []⟩ [("_law_script", u)]) ∧ ∀ base : Heap, (K w.params).In base → base.Ns mainGlobals mg → FnOk l.prog w (K w.params) mg base CX0 7 fa fd ["_law_script"] (spLaw (K w.params))) :
    PySem.W.WalkO q loose XP YP l.row.toRowW d [] (fun f vs => PySem.call f vs) :=
  L2.walk_of (n := 63) (k := 7) (x := "_law_script") (CX := fun _ => CX0) (sp := fun w => spLaw (K w.params)) hn (by decide) hdf ⟨rfl, by decide, by decide⟩ hY F (fun _ _ a ns hl _ hS => ⟨a, ns, rfl, hS, hl, fun _ => rfl⟩) fun _ _ _ _ _ z => z
end WS
open PySem PySem.W PyProof.Rows in
set_option maxRecDepth 100000 in
set_option maxHeartbeats 0 in
theorem PySem.Challenge.cw_whichstand_k04_whole_reaches_holds : PySem.Challenge.rw_whichstand_k04_whole_reaches.Holds := by
  w_on; o_law; k_head; (case hw => w_witness2)
  k_fill
  refine WS.walk_law (l := PySem.Challenge.rw_whichstand_k04_whole_reaches) rfl rfl (fun w h Y => PySem.W.kIn_of Y) ?F
  case F =>
    intro w mg fa h KX G hmg
    refine' WS.all_mk KX G hmg ?z_set ?z_len ?z_isinstance ?z_int ?z_bool ?z_tuple ?z_list ?z_str ?z_range ?z_enumerate ?z_max ?z_min ?z_all ?z_any ?z_sorted ?z_sum ?z_zip ?g_MOST_STANDS ?g_WRITTEN_LETTERS ?g_LONGEST_ROW ?g_LETTER_COUNTS ?o_LETTER_COUNTS ?g_ROW_AIMS ?o_ROW_AIMS ?aC ?pgC ?hdC ?poC ?saC ?mkC ?kcC ?n__table ?pa1_Machine_table ?pa2_Machine_table ?pa3_Machine_table ?pa4_Machine_table ?l_Machine_table ?c_Machine_table ?k_Machine_table ?pa1_Machine_letters ?pa2_Machine_letters ?pa3_Machine_letters ?pa4_Machine_letters ?l_Machine_letters ?c_Machine_letters ?k_Machine_letters ?m1_Machine_len ?l_Machine_len ?c_Machine_len ?k_Machine_len ?m2_Machine_len ?a_is_below ?l_is_below ?c_is_below ?k_is_below ?a__is_step ?l__is_step ?c__is_step ?k__is_step ?a__is_table_row ?l__is_table_row ?c__is_table_row ?k__is_table_row ?a__check_table ?l__check_table ?c__check_table ?k__check_table ?m1_Machine_init ?l_Machine_init ?c_Machine_init ?k_Machine_init ?m2_Machine_init ?a_is_ascending ?l_is_ascending ?c_is_ascending ?k_is_ascending ?a_is_block ?l_is_block ?c_is_block ?k_is_block ?a_check_stand ?l_check_stand ?c_check_stand ?k_check_stand ?a_check_stands ?l_check_stands ?c_check_stands ?k_check_stands ?a_check_aim ?l_check_aim ?c_check_aim ?k_check_aim ?a_check_row ?l_check_row ?c_check_row ?k_check_row ?a_walk ?l_walk ?c_walk ?k_walk ?a_reaches ?l_reaches ?c_reaches ?k_reaches ?a__law_mix ?l__law_mix ?c__law_mix ?k__law_mix ?a__law_next ?l__law_next ?c__law_next ?k__law_next ?a__law_pick ?l__law_pick ?c__law_pick ?k__law_pick ?a__law_table ?l__law_table ?c__law_table ?k__law_table ?a__law_stands ?l__law_stands ?c__law_stands ?k__law_stands ?a__law_row ?l__law_row ?c__law_row ?k__law_row ?a__law_walk ?l__law_walk ?c__law_walk ?k__law_walk ?a__law_alike ?l__law_alike ?c__law_alike ?k__law_alike ?a__law_reached ?l__law_reached ?c__law_reached ?k__law_reached ?a_law ?l_law ?c_law ?k_law
    (case z_set => k_is)
    (case z_len => k_is)
    (case z_isinstance => k_is)
    (case z_int => k_is)
    (case z_bool => k_is)
    (case z_tuple => k_is)
    (case z_list => k_is)
    (case z_str => k_is)
    (case z_range => k_is)
    (case z_enumerate => k_is)
    (case z_max => k_is)
    (case z_min => k_is)
    (case z_all => k_is)
    (case z_any => k_is)
    (case z_sorted => k_is)
    (case z_sum => k_is)
    (case z_zip => k_is)
    (case g_MOST_STANDS => k_is)
    (case g_WRITTEN_LETTERS => k_is)
    (case g_LONGEST_ROW => k_is)
    (case g_LETTER_COUNTS => k_is)
    (case o_LETTER_COUNTS => k_is)
    (case g_ROW_AIMS => k_is)
    (case o_ROW_AIMS => k_is)
    (case aC => k_is)
    (case pgC => k_is)
    (case hdC => k_is)
    (case poC => k_is)
    (case saC => k_is)
    (case mkC => k_is)
    (case kcC => k_is)
    (case n__table => k_is)
    (case pa1_Machine_table => k_is)
    (case pa2_Machine_table => k_is)
    (case pa3_Machine_table => k_is)
    (case pa4_Machine_table => k_is)
    (case l_Machine_table => k_is)
    (case c_Machine_table => k_is)
    (case k_Machine_table => k_is)
    (case pa1_Machine_letters => k_is)
    (case pa2_Machine_letters => k_is)
    (case pa3_Machine_letters => k_is)
    (case pa4_Machine_letters => k_is)
    (case l_Machine_letters => k_is)
    (case c_Machine_letters => k_is)
    (case k_Machine_letters => k_is)
    (case m1_Machine_len => k_is)
    (case l_Machine_len => k_is)
    (case c_Machine_len => k_is)
    (case k_Machine_len => k_is)
    (case m2_Machine_len => k_is)
    (case a_is_below => k_is)
    (case l_is_below => k_is)
    (case c_is_below => k_is)
    (case k_is_below => k_is)
    (case a__is_step => k_is)
    (case l__is_step => k_is)
    (case c__is_step => k_is)
    (case k__is_step => k_is)
    (case a__is_table_row => k_is)
    (case l__is_table_row => k_is)
    (case c__is_table_row => k_is)
    (case k__is_table_row => k_is)
    (case a__check_table => k_is)
    (case l__check_table => k_is)
    (case c__check_table => k_is)
    (case k__check_table => k_is)
    (case m1_Machine_init => k_is)
    (case l_Machine_init => k_is)
    (case c_Machine_init => k_is)
    (case k_Machine_init => k_is)
    (case m2_Machine_init => k_is)
    (case a_is_ascending => k_is)
    (case l_is_ascending => k_is)
    (case c_is_ascending => k_is)
    (case k_is_ascending => k_is)
    (case a_is_block => k_is)
    (case l_is_block => k_is)
    (case c_is_block => k_is)
    (case k_is_block => k_is)
    (case a_check_stand => k_is)
    (case l_check_stand => k_is)
    (case c_check_stand => k_is)
    (case k_check_stand => k_is)
    (case a_check_stands => k_is)
    (case l_check_stands => k_is)
    (case c_check_stands => k_is)
    (case k_check_stands => k_is)
    (case a_check_aim => k_is)
    (case l_check_aim => k_is)
    (case c_check_aim => k_is)
    (case k_check_aim => k_is)
    (case a_check_row => k_is)
    (case l_check_row => k_is)
    (case c_check_row => k_is)
    (case k_check_row => k_is)
    (case a_walk => k_is)
    (case l_walk => k_is)
    (case c_walk => k_is)
    (case k_walk => k_is)
    (case a_reaches => k_is)
    (case l_reaches => k_is)
    (case c_reaches => k_is)
    (case k_reaches => k_is)
    (case a__law_mix => k_is)
    (case l__law_mix => k_is)
    (case c__law_mix => k_is)
    (case k__law_mix => k_is)
    (case a__law_next => k_is)
    (case l__law_next => k_is)
    (case c__law_next => k_is)
    (case k__law_next => k_is)
    (case a__law_pick => k_is)
    (case l__law_pick => k_is)
    (case c__law_pick => k_is)
    (case k__law_pick => k_is)
    (case a__law_table => k_is)
    (case l__law_table => k_is)
    (case c__law_table => k_is)
    (case k__law_table => k_is)
    (case a__law_stands => k_is)
    (case l__law_stands => k_is)
    (case c__law_stands => k_is)
    (case k__law_stands => k_is)
    (case a__law_row => k_is)
    (case l__law_row => k_is)
    (case c__law_row => k_is)
    (case k__law_row => k_is)
    (case a__law_walk => k_is)
    (case l__law_walk => k_is)
    (case c__law_walk => k_is)
    (case k__law_walk => k_is)
    (case a__law_alike => k_is)
    (case l__law_alike => k_is)
    (case c__law_alike => k_is)
    (case k__law_alike => k_is)
    (case a__law_reached => k_is)
    (case l__law_reached => k_is)
    (case c__law_reached => k_is)
    (case k__law_reached => k_is)
    (case a_law => k_is)
    (case l_law => k_is)
    (case c_law => k_is)
    (case k_law => k_is)
