import PyProof.Rows.All
import Wide.All
import OpenK.AllK
import Wide.FinOn
import HandS.ForMost
import HandS.Iter
import HandS.IsInst
import HandS.Style
import HandS.Property
import HandS.TupAny
import KE.GoesEnum
import KE.KDictDisplayH
import PySem.Challenge.RW_whichstand_k02_whole_walks
set_option Elab.async false
set_option linter.all false
set_option maxRecDepth 100000
set_option maxHeartbeats 4000000
namespace EnT
open PySem PySem.Spec PyProof.Rows L2
theorem made (v : Value) (ob : Obj) (G : Heap → Prop) (B : Begins v ob G) :
    Meets (Builtin.«enumerate.__new__» ⟨[.type "enumerate", v], []⟩) (fun _ R s => G s.heap ∧
      R (.ok (.ret (.ref (s.heap.push ob).objs.size))) { s with heap := (s.heap.push ob).push { cls := .type "enumerate", data := .fields #[.none, .bool false, .ref s.heap.objs.size, rawInt 0, .none, .none] } }) := by
  refine .of_wp ?_
  intro pr w' A' R' sh hh
  obtain ⟨hp, gs, dr, tk, os⟩ := sh
  obtain ⟨g1, hh⟩ := hh
  have hsub' := sub_enumerate
  have it : ∀ {B1 : Around} {E1 : Value → Shared → Prop} {Q1 : Value → Shared → Prop}, Q1 (.ref hp.objs.size) ⟨hp.push ob, gs, dr, tk, os⟩ → wpAny (model pr w') B1 (pyIter v) Q1 E1 ⟨hp, gs, dr, tk, os⟩ := by
    intro B1 E1 Q1 q
    exact B.iter pr w' _ _ ⟨hp, gs, dr, tk, os⟩ _ g1 q
  wp_walk using it
  refine wpAny_stack_any (fun _ => wpAny_pure ?_)
  split
  · rename_i cc _ _ _ _ _
    cases (cc == Value.type "enumerate") <;> (wp_walk using it; exact ⟨_, rfl, hh⟩)
  · (wp_walk using it; exact ⟨_, rfl, hh⟩)

section
variable {prog : Program} {w : World} {A : Around} {E : Value → Shared → Prop} {s : Shared}
theorem begin1 {t : Addr} {its : Array Value} {Q : Value → Shared → Prop} (g1 : s.heap.IsTuple t its)
    (q : ∀ h', IsEnum h' (s.heap.objs.size + 1) s.heap.objs.size 0 .none → h'.IsTupleIter s.heap.objs.size t 0 → (∀ b o, s.heap.get? b = some o → h'.get? b = some o) →
      Q (.ref (s.heap.objs.size + 1)) { s with heap := h' }) : wpAny (model prog w) A (call (.type "enumerate") [.ref t]) Q E s := by
  refine callType_new F.called_enumerate (by decide) (F.typeCall_enumerate_1 _) (F.newCall_enumerate_1 _) (fun ob => F.args_object_init_2 ob _) F.entry_enumerate_new (made _ _ _ (begins_tuple t its)) ⟨g1, ?_⟩
  generalize eo : ({ cls := .type "tuple_iterator", data := .fields #[.ref t, .int 0 0] } : Obj) = io
  have fr : io.isFreed = false := by rw [← eo]; rfl
  have sz : (s.heap.push io).objs.size = s.heap.objs.size + 1 := Heap.size_push ..
  have en : IsEnum ((s.heap.push io).push { cls := .type "enumerate", data := .fields #[.none, .bool false, .ref s.heap.objs.size, rawInt 0, .none, .none] }) (s.heap.objs.size + 1) s.heap.objs.size 0 .none := by
    have z := Heap.get?_push_size (s.heap.push io) (o := { cls := .type "enumerate", data := .fields #[.none, .bool false, .ref s.heap.objs.size, rawInt 0, .none, .none] }) rfl
    rw [sz] at z
    exact z
  show _ ∧ _
  rw [sz]
  refine ⟨⟨_, en, rfl⟩, q _ en ?_ (fun b o e => Heap.get?_push_of_some _ (Heap.get?_push_of_some _ e))⟩
  exact ⟨io, Heap.get?_push_of_some _ (Heap.get?_push_size _ fr), by rw [← eo], by rw [← eo] <;> rfl⟩
end
/-- the tuple at a, each item in a new pair behind its place -/
def ItT (K : PySem.W.Frag) (a : Addr) : It where
  go i H := ∃ ys y, SqT K H a ys ∧ ys[i]? = some y
  yld i H v H' := ∃ T y, v = .ref T ∧ H T = none ∧ H' = upd H T (.tup [.int (i : Nat), y]) ∧ ∀ ys, SqT K H a ys → ys[i]? = some y
  stop i H := ∃ ys : List V, SqT K H a ys ∧ ys.length ≤ i
theorem cls_ne {h : Heap} {a b : Addr} {o u : Obj} (x : h.get? a = some o) (y : h.get? b = some u) (n : o.cls ≠ u.cls) : a ≠ b := by
  intro z
  rw [z, y] at x
  exact n (congrArg Obj.cls (Option.some.inj x)).symm
theorem turnT {P : Program} {w : World} {K : PySem.W.Frag} {elts : List Expr} {kk : Nat} {tpos : Pos} (a e it : Addr) :
    Turn P w K (.Tuple elts kk tpos) (ItT K a) [e, it] e (fun i h => (∃ old, IsEnum h e it ((i : Nat) : Int) old) ∧ h.IsTupleIter it a i ∧ e ≠ it) where
  mem := List.mem_cons_self
  obj := by
    rintro i h ⟨⟨old, he⟩, ⟨o, ho, hc, hd⟩, _⟩ b hb
    rcases List.mem_cons.mp hb with z | z
    · exact z ▸ ⟨_, he, fun v q => nomatch q⟩
    · rw [List.mem_singleton.mp z]
      exact ⟨o, ho, fun v q => by rw [hd] at q; cases q⟩
  keep := by
    rintro i h h' ⟨⟨old, he⟩, hi, hne⟩ k
    exact ⟨⟨old, k e List.mem_cons_self _ he⟩, hi.at (fun o q => k it (by simp) o q), hne⟩
  item := by
    rintro X rfl rfl rfl hcalm i pins s σ H E I hf ⟨⟨old, he⟩, hit, hne⟩ ⟨ys, y, hq, hy⟩
    obtain ⟨its, rv, tp, -⟩ := I.tuple hq
    have tp' : s.heap.IsTuple a its.toArray := tp
    obtain ⟨u, hu, ru⟩ := rv.get hy
    have hlt : i < its.toArray.size := by
      have := (List.getElem?_eq_some_iff.mp hu).1
      simpa using this
    obtain ⟨oa, ga, ca, -⟩ := id tp'
    obtain ⟨oi, gi, ci, -⟩ := id hit
    have a_it : a ≠ it := cls_ne ga gi (by rw [ca, ci]; decide)
    have e_a : e ≠ a := cls_ne he ga (by rw [ca]; show Value.type "enumerate" ≠ Value.type "tuple"; decide)
    have sz_e : e < s.heap.objs.size := Heap.lt_size he
    have sz_i : it < s.heap.objs.size := Heap.lt_size gi
    have D : Draws X.prog X.w X.A.in1 it [it, a] its.toArray.size (fun j v => its.toArray[j]? = some v) (fun j h => h.IsTupleIter it a j ∧ h.IsTuple a its.toArray) := Draws.tuple (A := X.A.in1) (show X.A.in1.handled = none from I.ok.hd hcalm) it a a_it its.toArray
    refine wpAny_pyNext_enum_itemD D he ⟨hit, tp'⟩ hlt hne (by simp [hne, e_a]) ?_
    intro x h' tk px ho hst hT hsz hk
    have ex : x = u := by
      have z : its[i]? = some x := by simpa using px
      rw [hu] at z
      exact (Option.some.inj z).symm
    subst ex
    refine ⟨_, rfl, wpAny_letOwnedTupleGo_enum (s := { s with heap := h', toks := tk + 1 }) ho ?_⟩
    intro h2 he2 sb
    have T2 : h2.get? s.heap.objs.size = some { cls := .type "tuple", data := .seq #[.int i tk, x] } := (sb.2 _ (Nat.ne_of_gt sz_e)).trans hT
    have new : ObjOk X.prog X.w (upd H s.heap.objs.size (.tup [.int (i : Nat), y])) h2 s.heap.objs.size (.tup [.int (i : Nat), y]) := by
      refine ⟨by show 2 ≤ sizeLine; decide, [.int i tk, x], .cons ⟨tk, rfl⟩ (.cons ru .nil), ?_⟩
      exact ⟨_, T2, rfl, _, rfl⟩
    have I1 := I.turnedNew (t' := tk + 1) (ch := [e, it]) (fun b ob hb q => by
      have b1 : b ≠ e := fun z => hb (by simp [z])
      have b2 : b ≠ it := fun z => hb (by simp [z])
      exact (sb.2 b b1).trans (hk b ob b1 b2 q)) hf (Nat.le_refl _) new
    refine ⟨.ref s.heap.objs.size, _, I1, rfl, ?_, ?_, ?_⟩
    · exact ⟨_, y, rfl, I.hok.fresh (Nat.le_refl _), rfl, fun zs hz => by rw [I.tuple_inj hz hq]; exact hy⟩
    · have e1 : ((i + 1 : Nat) : Int) = (i : Int) + 1 := by omega
      exact ⟨⟨x, by rw [e1]; exact he2⟩, hst.1.at (fun o q => (sb.2 it (Ne.symm hne)).trans q), hne⟩
    · intro b hb
      have lt : b < s.heap.objs.size := by
        rcases List.mem_cons.mp hb with z | z
        · rw [z]; exact sz_e
        · rw [List.mem_singleton.mp z]; exact sz_i
      rw [upd_ne (Nat.ne_of_lt lt)]
      exact (hf b hb).1
  done := by
    rintro X rfl rfl rfl hcalm i pins s σ H E I hf ⟨⟨old, he⟩, hit, hne⟩ ⟨ys, hq, hy⟩
    obtain ⟨its, rv, tp, -⟩ := I.tuple hq
    have tp' : s.heap.IsTuple a its.toArray := tp
    obtain ⟨f0, f1, f2, f3, f4, f5⟩ := hf it (by simp)
    have hle : its.toArray[i]? = none := by
      have := rv.length
      simp
      omega
    obtain ⟨oi, gi, ci, di⟩ := id hit
    have hT : s.TypeIs (.ref e) "enumerate" := ⟨_, he, rfl⟩
    unfold pyNext
    refine wpAny_bind (wpAny_attempt (wpAny_callSpecial?_slot (name := Str.ofString "__next__") hT F.slot_enumerate_next (wpAny_call_entry F.slot_enumerate_next hT F.entry_enumerate_next ?_ (F.args_enumerate_next_1 _))))
    show wpAny _ _ (field (.ref e) 2 >>= _) _ _ _
    refine wpAny_bind (wpAny_field he rfl (x := .ref it) rfl (wpAny_bind (wpAny_nextOf_tuple_end (I.ok.hd hcalm) hit tp' hle ?_)))
    rintro h' x eb ⟨o, ho, hc⟩
    refine wpAny_bind (wpAny_isInstance (T := "StopIteration") (b := true) ⟨o, ho, hc⟩ isSubtype_stop (wpAny_pure ?_))
    exact ⟨rfl, I.turned (t' := s.toks) (fun b o hb q => eb b o hb q) f0 f1 f3 f4 f5⟩
  self := by
    rintro A i s Q E ⟨⟨_, he⟩, _⟩ q
    exact wpAny_pyIter_enum he q
def iEnT (K : PySem.W.Frag) (ta : TA) : TI := fun σ H R => ta σ H fun vs H1 => ∃ a ys, vs = [.ref a] ∧ SqT K H1 a ys ∧ R (ItT K a) H1
theorem pi_enumT {X : Cx} {e : Expr} {ta : TA} {p pos tpos : Pos} {elts : List Expr} {kk : Nat} (hg : Gl X "enumerate") (hm : X.mg "enumerate" = none) (ha : PA X [e] ta) (hs : starEach [e] X.env = [(false, eval e X.env)] := by rfl) :
    PI X (.Tuple elts kk tpos) (.Call (.Name "enumerate" p) [e] [] pos) (iEnT X.K ta) := by
  constructor
  intro pins s σ H R I h
  refine Call_ (ld_blt I hg hm boot_enumerate (PyProof.Rows.callWith_type1 (thn (ha.run pos pins s σ H _ I h) ?_) hs rfl))
  rintro us s1 ⟨vs, H1, I1, r1, a, ys, rfl, hq, q⟩
  obtain ⟨u, rfl⟩ : ∃ u, us = [u] := by
    cases r1 with
    | cons r rr => cases rr; exact ⟨_, rfl⟩
  obtain rfl : u = Value.ref a := by
    cases r1 with
    | cons r rr => exact r
  obtain ⟨its, rv, tp, -⟩ := I1.tuple hq
  refine begin1 (show s1.heap.IsTuple a its.toArray from tp) ?_
  intro h' he hit hk
  refine wpAny_pyIter_enum he ?_
  have I2 : Inv X pins σ H1 { s1 with heap := h' } := I1.kept (t' := s1.toks) hk
  refine ⟨s1.heap.objs.size + 1, [s1.heap.objs.size + 1, s1.heap.objs.size], _, _, H1, rfl, I2, turnT a _ _, ⟨⟨.none, he⟩, hit, Nat.succ_ne_self _⟩, ?_, q⟩
  intro b hb
  have hle : s1.heap.objs.size ≤ b := by
    rcases List.mem_cons.mp hb with z | z
    · rw [z]; exact Nat.le_succ _
    · rw [List.mem_singleton.mp z]; exact Nat.le_refl _
  exact I1.fpOk hle (I1.hok.fresh hle)
/-- the loop over it -/
theorem for_enT {K : PySem.W.Frag} {a : Addr} {xs : List V} {g : TG} {tb : TS} {D : Ends} {σ : L2.St} {H : Hp} (Pv : Nat → L2.St → Hp → Prop) (h0 : Pv 0 σ H) (hl : ∀ i σ H, i ≤ xs.length → Pv i σ H → SqT K H a xs)
    (hs : ∀ i x T σ H, xs[i]? = some x → Pv i σ H → H T = none → g (.ref T) σ (upd H T (.tup [.int (i : Nat), x])) fun σ1 H1 => tb { D with nx := Pv (i + 1), ct := Pv (i + 1), bk := D.nx } σ1 H1)
    (hd : ∀ σ H, Pv xs.length σ H → D.nx σ H) :
    ∃ W : Nat → Nat → L2.St → Hp → Prop, (∃ m, W 0 m σ H) ∧ ∀ i m σ H, W i m σ H →
      ((ItT K a).stop i H ∧ D.nx σ H) ∨ ((ItT K a).go i H ∧ ∃ N : L2.St → Hp → Prop, (∀ σ' H', N σ' H' → ∃ m', m' < m ∧ W (i + 1) m' σ' H') ∧ ∀ x H', (ItT K a).yld i H x H' → g x σ H' fun σ2 H2 => tb { D with nx := N, ct := N, bk := D.nx } σ2 H2) := by
  refine ⟨fun i m σ H => m + i = xs.length ∧ Pv i σ H, ⟨xs.length, rfl, h0⟩, ?_⟩
  intro i m σ H
  rintro ⟨em, pv⟩
  have q := hl i σ H (by omega) pv
  rcases Nat.lt_or_ge i xs.length with lt | ge
  · right
    refine ⟨⟨xs, _, q, List.getElem?_eq_getElem lt⟩, Pv (i + 1), fun σ1 H1 p1 => ⟨m - 1, by omega, by omega, p1⟩, ?_⟩
    rintro x H1 ⟨T, y, rfl, fT, rfl, hy⟩
    exact hs i y T σ H (hy xs q) pv fT
  · left
    have ei : i = xs.length := by omega
    subst ei
    exact ⟨⟨xs, q, Nat.le_refl _⟩, hd σ H pv⟩
end EnT
namespace WS
open PySem PySem.Spec PyProof.Rows L2
/-- a def of the module: what it promises, where it stands -/
structure DefK (P : Program) (w : World) (K : PySem.W.Frag) (mg : Str → Option Value) (base : Heap) (CX : CXT) (k : Nat) (x : Str) (ps : List Str) (sp : Sp) : Prop where
  ex : ∃ f fd, FnOk P w K mg base CX k f fd ps sp ∧ mg x = some (.ref f) ∧ PySem.W.keepIn K (.ref f) = true ∧ Binds K fd ps []
theorem DefK.imp {P : Program} {w : World} {K : PySem.W.Frag} {mg : Str → Option Value} {base : Heap} {CX : CXT} {k : Nat} {x : Str} {ps : List Str} {sp sp' : Sp} (G : DefK P w K mg base CX k x ps sp)
    (h : ∀ vs H Q E, sp' vs H Q E → sp vs H Q E) : DefK P w K mg base CX k x ps sp' := by
  obtain ⟨f, fd, a, b, c, d⟩ := G.ex
  exact ⟨f, fd, a.imp h, b, c, d⟩
theorem DefK.mono {P : Program} {w : World} {K : PySem.W.Frag} {mg : Str → Option Value} {base : Heap} {CX : CXT} {k k' : Nat} {x : Str} {ps : List Str} {sp : Sp} (G : DefK P w K mg base CX k x ps sp) (h : k ≤ k') : DefK P w K mg base CX k' x ps sp := by
  obtain ⟨f, fd, a, b, c, d⟩ := G.ex
  exact ⟨f, fd, a.mono h, b, c, d⟩
section
variable {X : Cx} {k : Nat} {x : Str} {ps : List Str} {sp : Sp} {p pos : Pos} {e : Expr} {es : List Expr} {t : TA} {ta : TE}
theorem pe_def (G : DefK X.prog X.w X.K X.mg X.base CX0 k x ps sp) (hr : Room k X.A) (hg : Gl X x) (ha : PA X (e :: es) t) (hdb : (x == ("__debug__" : Str)) = false := by decide)
    (he : starEach (e :: es) X.env = (false, eval e X.env) :: starEach es X.env := by rfl) (hpl : (backTo pos (starEach es X.env)).any (·.1) = false := by rfl) :
    PE X (.Call (.Name x p) (e :: es) [] pos) (tCall sp [] E0 t) := by
  obtain ⟨f, fd, a, b, c, d⟩ := G.ex
  exact pe_call a hr hg b c d .nil pass0 ha hdb he hpl
/-- a statement, then the rest, behind a word of one's own -/
def tMid (t u : TS) : TS := fun D σ H => ∃ W : L2.St → Hp → Prop, t { D with nx := W } σ H ∧ ∀ σ1 H1, W σ1 H1 → u D σ1 H1
theorem pss_mid {st : Stmt} {more : List Stmt} {t u : TS} (h1 : PS X st t) (h2 : PSs X more u) : PSs X (st :: more) (tMid t u) := by
  constructor
  intro pins s σ H D I
  rintro ⟨W, a, b⟩
  refine wpAny_execs_cons (thn (h1.run pins s σ H { D with nx := W } I a) ?_)
  intro f s1 q
  cases f
  case next =>
    obtain ⟨σ1, H1, I1, z⟩ := q
    exact h2.run pins s1 σ1 H1 D I1 (b _ _ z)
  all_goals exact q
theorem pe_gI {i : Int} {tk : Tok} (hg : Gl X x) (hm : X.mg x = some (.int i tk)) (hd : (x == ("__debug__" : Str)) = false := by decide) : PE X (.Name x pos) (tC (.int i)) := pe_glob hg hm ⟨tk, rfl⟩ hd
theorem pe_gR {a : Addr} (hg : Gl X x) (hm : X.mg x = some (.ref a)) (hd : (x == ("__debug__" : Str)) = false := by decide) : PE X (.Name x pos) (tC (.ref a)) := pe_glob hg hm rfl hd
/-- a property of the class at C -/
structure PropK (P : Program) (w : World) (K : PySem.W.Frag) (mg : Str → Option Value) (base : Heap) (k : Nat) (C : Addr) (f : Str) (sp : Sp) : Prop where
  cl : Cls K C
  ex : ∃ pa g fd, PropOf K C f pa g ∧ FnOk P w K mg base CX0 k g fd ["self"] sp ∧ Binds K fd ["self"] []
theorem pe_propM {C : Addr} {f : Str} (G : PropK X.prog X.w X.K X.mg X.base k C f sp) (hr : Room (k + 1) X.A) (he : PE X e ta) (hab : attributeBase e f X.env (eval e X.env) = eval e X.env := by rfl) :
    PE X (.Attribute e f pos) (tProp C sp [] E0 ta) := by
  obtain ⟨pa, g, fd, a, b, c⟩ := G.ex
  exact pe_prop he G.cl a b hr c .nil pass0 hab
/-- an instance made -/
structure MkK (P : Program) (w : World) (K : PySem.W.Frag) (mg : Str → Option Value) (base : Heap) (CX : CXT) (k : Nat) (C : Addr) (x : Str) (ps : List Str) (sp : Sp) : Prop where
  gl : mg x = some (.ref C)
  ex : ∃ f fd, Mk K C f ∧ FnOk P w K mg base CX k f fd ps sp ∧ Binds K fd ps []
theorem pe_mkM {C : Addr} (G : MkK X.prog X.w X.K X.mg X.base CX0 k C x ps sp) (hr : Room (k + 1) X.A) (hg : Gl X x) (ha : PA X (e :: es) t) (hdb : (x == ("__debug__" : Str)) = false := by decide)
    (he : starEach (e :: es) X.env = (false, eval e X.env) :: starEach es X.env := by rfl) (hpl : (backTo pos (starEach es X.env)).any (·.1) = false := by rfl) :
    PE X (.Call (.Name x p) (e :: es) [] pos) (tMake C sp [] E0 t) := by
  obtain ⟨f, fd, a, b, c⟩ := G.ex
  exact pe_make a b hr hg G.gl c .nil pass0 ha hdb he hpl
/-- len of an instance -/
structure LenK (P : Program) (w : World) (K : PySem.W.Frag) (mg : Str → Option Value) (base : Heap) (k : Nat) (C : Addr) (sp : Sp) : Prop where
  ex : ∃ f fd, PySem.W.findIn K (.ref C) "__len__" = some (some (.ref f)) ∧ PySem.W.isFn K (.ref f) = true ∧ FnOk P w K mg base CX0 k f fd ["self"] sp ∧ Binds K fd ["self"] []
def rLenO (C : Addr) (sp : Sp) : List V → Hp → VK → Prop := fun xs H Q => ∃ a dx fs, xs = [.ref a] ∧ H a = some (.ins C dx fs) ∧ sp [.ref a] H (fun v H' => ∃ n : Nat, v = .int n ∧ n < 2 ^ 63 ∧ Q (.int n) H') E0
theorem call_lenO {C : Addr} (G : LenK X.prog X.w X.K X.mg X.base k C sp) (hr : Room (k + 1) X.A) : CallR X (.builtin "len") (rLenO C sp) := by
  intro pins s σ H xs us Q I r hh
  obtain ⟨a, dx, fs, rfl, ea, q⟩ := hh
  obtain ⟨u, rfl⟩ : ∃ u, us = [u] := by
    cases r with
    | cons r rr => cases rr; exact ⟨_, rfl⟩
  obtain rfl : u = Value.ref a := by
    cases r with
    | cons r rr => exact r
  obtain ⟨f, fd, h1, h2, h3, h4⟩ := G.ex
  obtain ⟨mA, O, _, _, _, _⟩ := ins_get I.hok ea
  obtain ⟨od, J, _⟩ := O.look
  obtain ⟨m, F⟩ := I.fr
  refine PySem.W.len_K F I.mod.kin J h1 h2 ?_
  have hl : ([Value.ref a] ++ ([] : List Value)).length = (["self"] : List Str).length := rfl
  refine wpAny_call (codeAny_mono (h3.run X.A.in1 X.stack s H ⟨[.ref a], []⟩ [.ref a] [.ref a] _ E0 hr.in1 I.env0.in1 (h4 s [.ref a] I.kIn hl) (.cons rfl .nil) q) fun r s' hq => ?_)
  cases r with
  | error er => exact False.elim hq
  | ok fl =>
    cases fl with
    | ret u =>
      obtain ⟨v, H', I3, rv, n, rfl, hn, q3⟩ := I.after hq
      obtain ⟨t, rfl⟩ := rv
      refine ⟨⟨Int.natCast_nonneg n, by omega⟩, .int n, H', I3.tok _, ⟨_, rfl⟩, q3⟩
    | next => exact False.elim hq
    | brk => exact False.elim hq
    | cont => exact False.elim hq
theorem pe_lenO {C : Addr} (G : LenK X.prog X.w X.K X.mg X.base k C sp) (hr : Room (k + 1) X.A) (hg : Gl X "len") (hm : X.mg "len" = none) (he : PE X e ta)
    (hst : starEach [e] X.env = [(false, eval e X.env)] := by rfl) : PE X (.Call (.Name "len" p) [e] [] pos) (tCB (rLenO C sp) (tCons ta tNil)) :=
  pe_callB (call_lenO G hr) hg hm boot_len (pa_cons he pa_nil hst) (by decide) (by decide) hst (by rfl)
end
/-- the built-ins' names that the program has not taken for itself -/
structure Blt (mg : Str → Option Value) : Prop where
  n_set : mg "set" = none
  n_len : mg "len" = none
  n_isinstance : mg "isinstance" = none
  n_int : mg "int" = none
  n_bool : mg "bool" = none
  n_tuple : mg "tuple" = none
  n_list : mg "list" = none
  n_str : mg "str" = none
  n_range : mg "range" = none
  n_enumerate : mg "enumerate" = none
  n_max : mg "max" = none
  n_min : mg "min" = none
  n_all : mg "all" = none
  n_any : mg "any" = none
  n_sorted : mg "sorted" = none
  n_sum : mg "sum" = none
  n_zip : mg "zip" = none
/-! ### values of any kind, and their types -/
inductive AnyV (K : PySem.W.Frag) (H : Hp) : V → String → Prop where
  | non : AnyV K H .non "NoneType"
  | bl (b : Bool) : AnyV K H (.bl b) "bool"
  | int (i : Int) : AnyV K H (.int i) "int"
  | str (x : Str) : AnyV K H (.str x) "str"
  | lst {a : Addr} {xs : List V} (h : SqL K H a xs) : AnyV K H (.ref a) "list"
  | tup {a : Addr} {xs : List V} (h : SqT K H a xs) : AnyV K H (.ref a) "tuple"
  | dct {a : Addr} {kvs : List (Key × V)} (h : H a = some (.dK kvs)) : AnyV K H (.ref a) "dict"
theorem AnyV.ty {K : PySem.W.Frag} {H : Hp} {v : V} {t : String} (x : AnyV K H v t) : TyX K H v (.type t) := by
  cases x with
  | non => exact .base .non
  | bl b => exact .base (.bl b)
  | int i => exact .base (.int i)
  | str z => exact .base (.str z)
  | lst h =>
    rcases h with (h | ⟨o, h⟩) | ⟨o, its, n, h1, h2, _⟩
    · exact .base (.lst h)
    · exact .base (.frz h)
    · exact .kList h1 h2
  | tup h =>
    rcases h with (h | ⟨o, h⟩) | ⟨o, its, n, h1, h2, _⟩
    · exact .base (.tup h)
    · exact .fTuple h
    · exact .kTuple h1 h2
  | dct h => exact .base (.dK h)
theorem seqT {K : PySem.W.Frag} {H H' : Hp} {a : Addr} {xs : List V} (s : Same H H') (h : SqT K H a xs) : SqT K H' a xs := by
  rcases h with (h | ⟨o, h⟩) | h
  · exact .inl (.inl (s _ _ h))
  · exact .inl (.inr ⟨o, s _ _ h⟩)
  · exact .inr h
theorem AnyV.same {K : PySem.W.Frag} {H H' : Hp} {v : V} {t : String} (x : AnyV K H v t) (s : Same H H') : AnyV K H' v t := by
  cases x with
  | non => exact .non
  | bl b => exact .bl b
  | int i => exact .int i
  | str z => exact .str z
  | lst h => exact .lst (s.seq h)
  | tup h => exact .tup (seqT s h)
  | dct h => exact .dct (s _ _ h)
theorem same_new {H : Hp} {p : Addr} (h : H p = none) (o : HO) : Same H (upd H p o) := fun b u q => by rw [upd_ne (ne_of_none q h)]; exact q
/-- isinstance of such a value: its answer by the types' names -/
theorem kit_any {K : PySem.W.Frag} {t c : String} {b : Bool} (h : kitB t c = some b) : PySem.W.kitOne K (.type t) (.type c) = some b := kit_ty h
/-! ### the rules that speak of the written part, by its name -/
def rLenS (K : PySem.W.Frag) : List V → Hp → VK → Prop := fun xs H Q => ∃ p ys, xs = [.ref p] ∧ (SqL K H p ys ∨ SqT K H p ys) ∧ Q (.int ys.length) H
def rListOf (K : PySem.W.Frag) : List V → Hp → VK → Prop := fun xs H Q => ∃ p ys, xs = [.ref p] ∧ (SqL K H p ys ∨ SqT K H p ys) ∧ ∀ l, H l = none → Q (.ref l) (upd H l (.lst ys))
def rTupOf (K : PySem.W.Frag) : List V → Hp → VK → Prop := fun xs H Q => ∃ p ys, xs = [.ref p] ∧ ((SqL K H p ys ∧ ∀ l, H l = none → Q (.ref l) (upd H l (.tup ys))) ∨ (SqT K H p ys ∧ Q (.ref p) H))
def rInt1 : List V → Hp → VK → Prop := fun xs H Q => (∃ i, xs = [V.int i] ∧ Q (V.int i) H) ∨ ∃ k, xs = [V.bl k] ∧ Q (V.int (if k = true then 1 else 0)) H
section
variable {X : Cx} (K : PySem.W.Frag)
theorem k_len (e : X.K = K := by rfl) : CallR X (.builtin "len") (rLenS K) := by subst e; exact call_len_seq
theorem k_listOf (e : X.K = K := by rfl) : CallR X (.type "list") (rListOf K) := by subst e; exact call_list_of
theorem k_tupOf (e : X.K = K := by rfl) : CallR X (.type "tuple") (rTupOf K) := by subst e; exact call_tuple_of
theorem k_int1 : CallR X (.type "int") rInt1 := call_int1
theorem k_isi (e : X.K = K := by rfl) : CallR X (.builtin "isinstance") (rIsi K) := by subst e; exact call_isi
theorem k_isiT (e : X.K = K := by rfl) : CallR X (.builtin "isinstance") (rIsiT K) := by subst e; exact call_isiT
theorem k_ixL (e : X.K = K := by rfl) : IxR X (rIxL K) := by subst e; exact ix_list
theorem k_ixT (e : X.K = K := by rfl) : IxR X (rIxT K) := by subst e; exact ix_tup
theorem k_ixQ (e : X.K = K := by rfl) : IxR X (rIx K) := by subst e; exact ix_seq
theorem k_slL (e : X.K = K := by rfl) : SlR X (rSlL K) := by subst e; exact sl_list
theorem k_slT (e : X.K = K := by rfl) : SlR X (rSlA K) := by subst e; exact sl_tupA
theorem k_catT (e : X.K = K := by rfl) : OpR X (binaryOp .Add) (rCatA K) := by subst e; exact op_catA
theorem k_eqD (hu : X.A.units + 64 < cLine) (e : X.K = K := by rfl) : OpR X (compareOp .Eq) (rEqD K) := by subst e; exact op_eqD hu
theorem k_neD (hu : X.A.units + 64 < cLine) (e : X.K = K := by rfl) : OpR X (compareOp .NotEq) (rNeD K) := by subst e; exact op_neD hu
theorem k_in (e : X.K = K := by rfl) : OpR X (compareOp .In) (rIn K false) := by subst e; exact op_in_seq
theorem k_notIn (e : X.K = K := by rfl) : OpR X (compareOp .NotIn) (rIn K true) := by subst e; exact op_notIn_seq
theorem k_all (hc : X.calm = true) (e : X.K = K := by rfl) : CallR X (.builtin "all") (rAll K) := by subst e; exact cr_all hc
theorem k_any (hc : X.calm = true) (e : X.K = K := by rfl) : CallR X (.builtin "any") (rAny K) := by subst e; exact cr_any hc
theorem k_sum (hc : X.calm = true) (e : X.K = K := by rfl) : CallR X (.builtin "sum") (rSum K) := by subst e; exact cr_sum hc
theorem k_max (hc : X.calm = true) (e : X.K = K := by rfl) : CallR X (.builtin "max") (rMax K) := by subst e; exact cr_max hc
theorem k_min (hc : X.calm = true) (e : X.K = K := by rfl) : CallR X (.builtin "min") (rMin K) := by subst e; exact cr_min hc
variable {tg l : Expr} {tl : TE}
theorem k_pil (hl : PE X l tl) (e : X.K = K := by rfl) : PI X tg l (iList K tl) := by subst e; exact pi_list hl
theorem k_pit (hl : PE X l tl) (e : X.K = K := by rfl) : PI X tg l (iTup K tl) := by subst e; exact pi_tup hl
theorem k_tgs {es : List Expr} {k : Nat} {t : TGs} {n : Nat} {pos : Pos} (hc : X.calm = true) (h : PGs X es t) (hn : (assignEach es X.env).length = n := by rfl) (hst : (assignEach es X.env).findIdx? (·.1) = none := by rfl) (e : X.K = K := by rfl) :
    PG X (.Tuple es k pos) (gTup K n t) := by subst e; exact pg_tup hc h hn hst
end
end WS
namespace WS
open PySem L2
/-! ### data -/
mutual
theorem dp_mono {K : PySem.W.Frag} {H H' : Hp} (hL : ∀ a xs, SqL K H a xs → SqL K H' a xs) (hT : ∀ a xs, SqT K H a xs → SqT K H' a xs) : ∀ {v : V} {d : PyData}, Dp K H v d → Dp K H' v d
  | _, _, .non => .non
  | _, _, .bl b => .bl b
  | _, _, .int i => .int i
  | _, _, .str x => .str x
  | _, _, .lst s a => .lst (hL _ _ s) (dps_mono hL hT a)
  | _, _, .tup s a => .tup (hT _ _ s) (dps_mono hL hT a)
theorem dps_mono {K : PySem.W.Frag} {H H' : Hp} (hL : ∀ a xs, SqL K H a xs → SqL K H' a xs) (hT : ∀ a xs, SqT K H a xs → SqT K H' a xs) : ∀ {vs : List V} {ds : List PyData}, DpAll K H vs ds → DpAll K H' vs ds
  | _, _, .nil => .nil
  | _, _, .cons h t => .cons (dp_mono hL hT h) (dps_mono hL hT t)
end
theorem dp_same {K : PySem.W.Frag} {H H' : Hp} (s : Same H H') {v : V} {d : PyData} (h : Dp K H v d) : Dp K H' v d := dp_mono (fun _ _ x => s.seq x) (fun _ _ x => seqT s x) h
theorem dps_same {K : PySem.W.Frag} {H H' : Hp} (s : Same H H') {vs : List V} {ds : List PyData} (h : DpAll K H vs ds) : DpAll K H' vs ds := dps_mono (fun _ _ x => s.seq x) (fun _ _ x => seqT s x) h
mutual
/-- no lists within -/
def noL : PyData → Bool
  | .list _ => false
  | .dict _ => false
  | .tuple ds => noLs ds
  | _ => true
def noLs : List PyData → Bool
  | [] => true
  | d :: ds => noL d && noLs ds
end
mutual
theorem dp_monoT {K : PySem.W.Frag} {H H' : Hp} (hT : ∀ a xs, SqT K H a xs → SqT K H' a xs) : ∀ {v : V} {d : PyData}, Dp K H v d → noL d = true → Dp K H' v d
  | _, _, .non, _ => .non
  | _, _, .bl b, _ => .bl b
  | _, _, .int i, _ => .int i
  | _, _, .str x, _ => .str x
  | _, _, .lst s a, n => by simp [noL] at n
  | _, _, .tup s a, n => .tup (hT _ _ s) (dps_monoT hT a (by simpa [noL] using n))
theorem dps_monoT {K : PySem.W.Frag} {H H' : Hp} (hT : ∀ a xs, SqT K H a xs → SqT K H' a xs) : ∀ {vs : List V} {ds : List PyData}, DpAll K H vs ds → noLs ds = true → DpAll K H' vs ds
  | _, _, .nil, _ => .nil
  | _, _, .cons h t, n => by
    exact .cons (dp_monoT hT h (by simp [noLs] at n; exact n.1)) (dps_monoT hT t (by simp [noLs] at n; exact n.2))
end
theorem noLs_of : ∀ {ds : List PyData}, (∀ d ∈ ds, noL d = true) → noLs ds = true
  | [], _ => rfl
  | d :: ds, h => by
    have e := noLs_of (ds := ds) fun x hx => h x (List.mem_cons_of_mem _ hx)
    simp [noLs, h d List.mem_cons_self, e]
theorem dp_tup {K : PySem.W.Frag} {H : Hp} {v : V} {ds : List PyData} (h : Dp K H v (.tuple ds)) : ∃ a xs, v = .ref a ∧ SqT K H a xs ∧ DpAll K H xs ds := by
  cases h with
  | tup s a => exact ⟨_, _, rfl, s, a⟩
theorem dp_lst {K : PySem.W.Frag} {H : Hp} {v : V} {ds : List PyData} (h : Dp K H v (.list ds)) : ∃ a xs, v = .ref a ∧ SqL K H a xs ∧ DpAll K H xs ds := by
  cases h with
  | lst s a => exact ⟨_, _, rfl, s, a⟩
theorem dp_non {K : PySem.W.Frag} {H : Hp} {v : V} (h : Dp K H v .none) : v = .non := by
  cases h
  rfl
theorem dp_int {K : PySem.W.Frag} {H : Hp} {v : V} {i : Int} (h : Dp K H v (.int i)) : v = .int i := by
  cases h
  rfl
theorem dps_len {K : PySem.W.Frag} {H : Hp} : ∀ {vs : List V} {ds : List PyData}, DpAll K H vs ds → vs.length = ds.length
  | _, _, .nil => rfl
  | _, _, .cons _ t => congrArg (· + 1) (dps_len t)
theorem dps_get {K : PySem.W.Frag} {H : Hp} : ∀ {vs : List V} {ds : List PyData} {i : Nat} {d : PyData}, DpAll K H vs ds → ds[i]? = some d → ∃ x, vs[i]? = some x ∧ Dp K H x d
  | _, _, _, _, .nil, e => by simp at e
  | _, _, 0, _, .cons h _, e => by
    have e' : _ = _ := Option.some.inj e
    subst e'
    exact ⟨_, rfl, h⟩
  | _, _, i + 1, d, .cons _ t, e => dps_get (i := i) t (by simpa using e)
theorem dps_getV {K : PySem.W.Frag} {H : Hp} : ∀ {vs : List V} {ds : List PyData} {i : Nat} {x : V}, DpAll K H vs ds → vs[i]? = some x → ∃ d, ds[i]? = some d ∧ Dp K H x d
  | _, _, _, _, .nil, e => by simp at e
  | _, _, 0, _, .cons h _, e => by
    have e' : _ = _ := Option.some.inj e
    subst e'
    exact ⟨_, rfl, h⟩
  | _, _, i + 1, d, .cons _ t, e => dps_getV (i := i) t (by simpa using e)
theorem dps_snoc {K : PySem.W.Frag} {H : Hp} : ∀ {vs : List V} {ds : List PyData} {x : V} {d : PyData}, DpAll K H vs ds → Dp K H x d → DpAll K H (vs ++ [x]) (ds ++ [d])
  | _, _, _, _, .nil, h => .cons h .nil
  | _, _, _, _, .cons h t, h' => .cons h (dps_snoc t h')
theorem dps_ints {K : PySem.W.Frag} {H : Hp} : ∀ (ns : List Int), DpAll K H (ns.map V.int) (ns.map PyData.int)
  | [] => .nil
  | n :: r => .cons (.int n) (dps_ints r)
theorem dps_intsV {K : PySem.W.Frag} {H : Hp} : ∀ {ns : List Int} {vs : List V}, DpAll K H vs (ns.map PyData.int) → vs = ns.map V.int
  | [], _, h => by cases h; rfl
  | n :: r, _, h => by
    cases h with
    | cons h1 h2 => rw [dp_int h1, dps_intsV h2]; rfl
theorem dp_any {K : PySem.W.Frag} {H : Hp} {v : V} {d : PyData} (h : Dp K H v d) : ∃ t, AnyV K H v t := by
  cases h with
  | non => exact ⟨_, .non⟩
  | bl b => exact ⟨_, .bl b⟩
  | int i => exact ⟨_, .int i⟩
  | str x => exact ⟨_, .str x⟩
  | lst s _ => exact ⟨_, .lst s⟩
  | tup s _ => exact ⟨_, .tup s⟩
/-! ### tables -/
/-- a step: where it leads and what it writes -/
abbrev Stp := Option (Nat × Nat)
abbrev Tab := List (List Stp)
def stepD : Stp → PyData
  | none => .none
  | some (n, w) => .tuple [.int (n : Nat), .int (w : Nat)]
def rowD (r : List Stp) : PyData := .tuple (r.map stepD)
def tabD (t : Tab) : PyData := .tuple (t.map rowD)
structure Good (t : Tab) (m : Nat) : Prop where
  lo : 1 ≤ t.length
  hi : t.length ≤ 6
  lets : m = 2 ∨ m = 3
  rows : ∀ r ∈ t, r.length = m
  steps : ∀ r ∈ t, ∀ n w, some (n, w) ∈ r → n < t.length ∧ w < 4
theorem noL_step (s : Stp) : noL (stepD s) = true := by
  cases s with
  | none => rfl
  | some p => obtain ⟨n, w⟩ := p; rfl
theorem noL_row (r : List Stp) : noL (rowD r) = true := by
  unfold rowD
  show noLs (r.map stepD) = true
  refine noLs_of fun d hd => ?_
  obtain ⟨s, _, rfl⟩ := List.mem_map.mp hd
  exact noL_step s
theorem noL_tab (t : Tab) : noL (tabD t) = true := by
  unfold tabD
  show noLs (t.map rowD) = true
  refine noLs_of fun d hd => ?_
  obtain ⟨s, _, rfl⟩ := List.mem_map.mp hd
  exact noL_row s
/-- a row of letters -/
def lettersD (r : List Nat) : PyData := .tuple (r.map fun (c : Nat) => PyData.int (c : Int))
theorem noL_letters (r : List Nat) : noL (lettersD r) = true := by
  unfold lettersD
  show noLs (r.map _) = true
  refine noLs_of fun d hd => ?_
  obtain ⟨s, _, rfl⟩ := List.mem_map.mp hd
  rfl
/-! ### the source of draws: the list h of a state, the list l of the cells, and an index -/
structure Src (H : Hp) (h l : Addr) : Prop where
  ne : h ≠ l
  ex : ∃ (st ix : Int) (cells : List Int), H h = some (.lst [.int st, .ref l, .int ix]) ∧ H l = some (.lst (cells.map V.int)) ∧ cells.length ≤ 63 ∧ 0 ≤ st ∧ st < 2147483647
/-- all that stood beside the source stands -/
def Keep (h l : Addr) (H H' : Hp) : Prop := ∀ b o, b ≠ h → b ≠ l → H b = some o → H' b = some o
theorem Keep.refl {h l : Addr} (H : Hp) : Keep h l H H := fun _ _ _ _ e => e
theorem Keep.trans {h l : Addr} {H H1 H2 : Hp} (a : Keep h l H H1) (b : Keep h l H1 H2) : Keep h l H H2 := fun c o n1 n2 e => b c o n1 n2 (a c o n1 n2 e)
theorem Keep.of {h l : Addr} {H H' : Hp} (s : Same H H') : Keep h l H H' := fun c o _ _ e => s c o e
theorem Src.same {H H' : Hp} {h l : Addr} (s : Src H h l) (e : Same H H') : Src H' h l := by
  obtain ⟨ne, st, ix, cs, a, b, c⟩ := s
  exact ⟨ne, st, ix, cs, e _ _ a, e _ _ b, c⟩
theorem Src.neT {H : Hp} {h l a : Addr} {xs : List V} (s : Src H h l) (e : Rd H a (.tup xs)) : a ≠ h ∧ a ≠ l := by
  obtain ⟨ne, st, ix, cs, e1, e2, _⟩ := s
  rcases e with e | ⟨o, e⟩
  · exact ⟨ne_of e e1 (by intro z; cases z), ne_of e e2 (by intro z; cases z)⟩
  · exact ⟨ne_of e e1 (by intro z; cases z), ne_of e e2 (by intro z; cases z)⟩
theorem Src.keepT {K : PySem.W.Frag} {H H' : Hp} {h l a : Addr} {xs : List V} (s : Src H h l) (k : Keep h l H H') (e : SqT K H a xs) : SqT K H' a xs := by
  rcases e with e | e
  · obtain ⟨n1, n2⟩ := s.neT e
    rcases e with e | ⟨o, e⟩
    · exact .inl (.inl (k _ _ n1 n2 e))
    · exact .inl (.inr ⟨o, k _ _ n1 n2 e⟩)
  · exact .inr e
theorem Src.keepD {K : PySem.W.Frag} {H H' : Hp} {h l : Addr} {v : V} {d : PyData} (s : Src H h l) (k : Keep h l H H') (e : Dp K H v d) (n : noL d = true) : Dp K H' v d := dp_monoT (fun _ _ x => s.keepT k x) e n
theorem Src.keepDs {K : PySem.W.Frag} {H H' : Hp} {h l : Addr} {vs : List V} {ds : List PyData} (s : Src H h l) (k : Keep h l H H') (e : DpAll K H vs ds) (n : noLs ds = true) : DpAll K H' vs ds := dps_monoT (fun _ _ x => s.keepT k x) e n
/-- what was new beside the source -/
theorem Src.neN {H : Hp} {h l a : Addr} (s : Src H h l) (e : H a = none) : a ≠ h ∧ a ≠ l := by
  obtain ⟨ne, st, ix, cs, e1, e2, _⟩ := s
  exact ⟨(ne_of_none e1 e).symm, (ne_of_none e2 e).symm⟩
theorem ixN_in {n : Nat} {i : Int} (h0 : 0 ≤ i) (h1 : i < (n : Int)) : ixN n i = some i.toNat := by
  unfold ixN
  rw [if_pos h0, if_pos h1]
theorem atI_at {α : Type} {xs : List α} {i : Int} (h0 : 0 ≤ i) (h1 : i < (xs.length : Int)) : ∃ c, atI xs i = some c ∧ xs[i.toNat]? = some c ∧ c ∈ xs := by
  have hk : i.toNat < xs.length := by omega
  refine ⟨xs[i.toNat], ?_, List.getElem?_eq_getElem hk, List.getElem_mem hk⟩
  unfold atI
  rw [ixN_in h0 h1]
  exact List.getElem?_eq_getElem hk
theorem atI_int {ns : List Int} {i : Int} (h0 : 0 ≤ i) (h1 : i < (ns.length : Int)) : ∃ c, atI (ns.map V.int) i = some (.int c) ∧ c ∈ ns := by
  obtain ⟨x, e, _, m⟩ := atI_at (xs := ns.map V.int) h0 (by rw [List.length_map]; exact h1)
  obtain ⟨c, hc, rfl⟩ := List.mem_map.mp m
  exact ⟨c, e, hc⟩
theorem Src.upd {H : Hp} {h l a : Addr} {o : HO} (s : Src H h l) (n1 : a ≠ h) (n2 : a ≠ l) : Src (upd H a o) h l := by
  obtain ⟨ne, st, ix, cs, e1, e2, r⟩ := s
  exact ⟨ne, st, ix, cs, by rw [upd_ne n1.symm]; exact e1, by rw [upd_ne n2.symm]; exact e2, r⟩
theorem Keep.free {h l a : Addr} {H H' : Hp} (k : Keep h l H H') (n1 : a ≠ h) (n2 : a ≠ l) (e : H' a = none) : H a = none := by
  cases q : H a with
  | none => rfl
  | some o =>
    rw [k a o n1 n2 q] at e
    cases e
theorem Keep.upd {h l a : Addr} {H H' : Hp} {o : HO} (k : Keep h l H H') (e : H a = none) : Keep h l H (upd H' a o) := fun b u n1 n2 q => by
  rw [upd_ne (ne_of_none q e)]
  exact k b u n1 n2 q
/-- tuples stand where a list is written anew -/
theorem seqT_upd {K : PySem.W.Frag} {H : Hp} {p a : Addr} {zs xs : List V} {o : HO} (hp : H p = some (.lst zs)) (h : SqT K H a xs) : SqT K (upd H p o) a xs := by
  rcases h with (h | ⟨u, h⟩) | h
  · exact .inl (.inl (by rw [upd_ne (ne_of h hp (by intro z; cases z))]; exact h))
  · exact .inl (.inr ⟨u, by rw [upd_ne (ne_of h hp (by intro z; cases z))]; exact h⟩)
  · exact .inr h
theorem dp_upd {K : PySem.W.Frag} {H : Hp} {p : Addr} {zs : List V} {o : HO} (hp : H p = some (.lst zs)) {v : V} {d : PyData} (h : Dp K H v d) (n : noL d = true) : Dp K (upd H p o) v d := dp_monoT (fun _ _ x => seqT_upd hp x) h n
theorem dps_upd {K : PySem.W.Frag} {H : Hp} {p : Addr} {zs : List V} {o : HO} (hp : H p = some (.lst zs)) {v : List V} {d : List PyData} (h : DpAll K H v d) (n : noLs d = true) : DpAll K (upd H p o) v d := dps_monoT (fun _ _ x => seqT_upd hp x) h n
theorem noLs_map {α : Type} {f : α → PyData} (h : ∀ x, noL (f x) = true) (xs : List α) : noLs (xs.map f) = true := noLs_of fun d hd => by
  obtain ⟨x, _, rfl⟩ := List.mem_map.mp hd
  exact h x
theorem small1k {n : Nat} (h : n ≤ 1000) : n ≤ sizeLine := Nat.le_of_lt (small1000 h)
theorem catA_ok {K : PySem.W.Frag} {H : Hp} {a b : Addr} {xs ys : List V} {Q : VK} (ha : SqT K H a xs) (hb : SqT K H b ys) (hl : xs.length + ys.length ≤ sizeLine) (k : ∀ r H', Same H H' → SqT K H' r (xs ++ ys) → Q (.ref r) H') :
    rCatA K (.ref a) (.ref b) H Q := by
  refine ⟨a, b, xs, ys, rfl, rfl, ha, hb, hl, fun e => ?_, fun _ e => ?_, fun _ _ p hp => k p _ (same_new hp _) (SqT.of upd_same)⟩
  · subst e
    exact k b H (Same.refl H) hb
  · subst e
    exact k a H (Same.refl H) (by rw [List.append_nil]; exact ha)
theorem slA_ok {K : PySem.W.Frag} {H : Hp} {a : Addr} {xs : List V} {lo hi : Option Int} {Q : VK} (ha : SqT K H a xs) (hw : (HT.sIx xs.length 0 lo = 0 ∧ HT.sIx xs.length xs.length hi = xs.length) → cutV xs lo hi = xs)
    (k : ∀ r H', Same H H' → SqT K H' r (cutV xs lo hi) → Q (.ref r) H') : rSlA K (.ref a) lo hi H Q :=
  ⟨a, xs, rfl, ha, fun z => k a H (Same.refl H) (by rw [hw z]; exact ha), fun _ p hp => k p _ (same_new hp _) (SqT.of upd_same)⟩
theorem dp_at {K : PySem.W.Frag} {H : Hp} {v : V} {ds : List PyData} {i : Nat} {d : PyData} (h : Dp K H v (.tuple ds)) (e : ds[i]? = some d) : ∃ a xs x, v = .ref a ∧ SqT K H a xs ∧ xs.length = ds.length ∧ xs[i]? = some x ∧ atI xs (i : Int) = some x ∧ Dp K H x d := by
  obtain ⟨a, xs, rfl, s, al⟩ := dp_tup h
  obtain ⟨x, ex, dx⟩ := dps_get al e
  exact ⟨a, xs, x, rfl, s, dps_len al, ex, atI_nat ex, dx⟩
/-! ### where rows lead -/
def stepAt (t : Tab) (n c : Nat) : Stp := (t.getD n []).getD c none
def walkF (t : Tab) : Nat → List Nat → Option (Nat × List Nat)
  | n, [] => some (n, [])
  | n, c :: r => match stepAt t n c with
    | none => none
    | some (n', x) => (walkF t n' r).map fun p => (p.1, x :: p.2)
theorem walk_cons (t : Tab) (n c : Nat) (r : List Nat) : walkF t n (c :: r) = match stepAt t n c with
    | none => none
    | some (n', x) => (walkF t n' r).map fun p => (p.1, x :: p.2) := rfl
theorem walk_none (t : Tab) : ∀ (r s : List Nat) (n : Nat), walkF t n r = none → walkF t n (r ++ s) = none
  | [], s, n, h => by cases h
  | c :: r, s, n, h => by
    rw [List.cons_append, walk_cons]
    have h' := h
    rw [walk_cons] at h'
    cases e : stepAt t n c with
    | none => rfl
    | some p =>
      obtain ⟨n', x⟩ := p
      rw [e] at h'
      have q : walkF t n' r = none := by
        cases z : walkF t n' r with
        | none => rfl
        | some p => simp [z] at h'
      show (walkF t n' (r ++ s)).map _ = none
      rw [walk_none t r s n' q]
      rfl
theorem walk_some (t : Tab) : ∀ (r s : List Nat) (n m : Nat) (ws : List Nat), walkF t n r = some (m, ws) → walkF t n (r ++ s) = (walkF t m s).map fun p => (p.1, ws ++ p.2)
  | [], s, n, m, ws, h => by
    cases h
    show walkF t n s = _
    cases walkF t n s with
    | none => rfl
    | some p => rfl
  | c :: r, s, n, m, ws, h => by
    rw [List.cons_append, walk_cons]
    have h' := h
    rw [walk_cons] at h'
    cases e : stepAt t n c with
    | none => rw [e] at h'; cases h'
    | some p =>
      obtain ⟨n', x⟩ := p
      rw [e] at h'
      cases z : walkF t n' r with
      | none => simp [z] at h'
      | some p =>
        obtain ⟨m', ws'⟩ := p
        have q : m' = m ∧ x :: ws' = ws := by simpa [z] using h'
        obtain ⟨rfl, rfl⟩ := q
        show (walkF t n' (r ++ s)).map _ = _
        rw [walk_some t r s n' m' ws' z]
        cases walkF t m' s with
        | none => rfl
        | some p => rfl
theorem walk_one (t : Tab) (n c : Nat) : walkF t n [c] = (stepAt t n c).map fun p => (p.1, [p.2]) := by
  rw [walk_cons]
  cases stepAt t n c with
  | none => rfl
  | some p => rfl
theorem stepAt_good {t : Tab} {m : Nat} (g : Good t m) {n c n' x : Nat} (e : stepAt t n c = some (n', x)) : n' < t.length ∧ x < 4 := by
  unfold stepAt at e
  rw [List.getD_eq_getElem?_getD, List.getD_eq_getElem?_getD] at e
  cases z : t[n]? with
  | none => simp [z] at e
  | some r =>
    rw [z] at e
    have e' : r[c]?.getD none = some (n', x) := e
    cases y : r[c]? with
    | none => rw [y] at e'; cases e'
    | some s =>
      rw [y] at e'
      have e2 : s = some (n', x) := e'
      subst e2
      exact g.steps r (List.mem_of_getElem? z) n' x (List.mem_of_getElem? y)
theorem walk_good {t : Tab} {m : Nat} (g : Good t m) : ∀ (r : List Nat) (n k : Nat) (ws : List Nat), n < t.length → walkF t n r = some (k, ws) → k < t.length ∧ ws.length = r.length ∧ ∀ x ∈ ws, x < 4
  | [], n, k, ws, hn, h => by
    cases h
    exact ⟨hn, rfl, fun _ z => nomatch z⟩
  | c :: r, n, k, ws, hn, h => by
    have h' := h
    rw [walk_cons] at h'
    cases e : stepAt t n c with
    | none => rw [e] at h'; cases h'
    | some p =>
      obtain ⟨n', x⟩ := p
      rw [e] at h'
      cases z : walkF t n' r with
      | none => simp [z] at h'
      | some p =>
        obtain ⟨m', ws'⟩ := p
        have q : m' = k ∧ x :: ws' = ws := by simpa [z] using h'
        obtain ⟨rfl, rfl⟩ := q
        obtain ⟨a, b⟩ := stepAt_good g e
        obtain ⟨y1, y2, y3⟩ := walk_good g r n' m' ws' a z
        refine ⟨y1, congrArg (· + 1) y2, fun u hu => ?_⟩
        rcases List.mem_cons.mp hu with rfl | hu
        · exact b
        · exact y3 u hu
/-- a table's step, in the heap -/
theorem tab_at {K : PySem.W.Frag} {H : Hp} {v : V} {t : Tab} {m n c : Nat} (g : Good t m) (h : Dp K H v (tabD t)) (hn : n < t.length) (hc : c < m) :
    ∃ a xs b ys z, v = .ref a ∧ SqT K H a xs ∧ xs.length = t.length ∧ atI xs (n : Int) = some (.ref b) ∧ SqT K H b ys ∧ ys.length = m ∧ atI ys (c : Int) = some z ∧ Dp K H z (stepD (stepAt t n c)) := by
  obtain ⟨r, hr⟩ : ∃ r, t[n]? = some r := ⟨_, List.getElem?_eq_getElem hn⟩
  have hr' : (t.map rowD)[n]? = some (rowD r) := by rw [List.getElem?_map, hr]; rfl
  obtain ⟨a, xs, x, rfl, s, l1, _, e1, d1⟩ := dp_at h hr'
  have lr : r.length = m := g.rows r (List.mem_of_getElem? hr)
  obtain ⟨q, hq⟩ : ∃ q, r[c]? = some q := ⟨_, List.getElem?_eq_getElem (by omega)⟩
  have hq' : (r.map stepD)[c]? = some (stepD q) := by rw [List.getElem?_map, hq]; rfl
  obtain ⟨b, ys, z, rfl, s2, l2, _, e2, d2⟩ := dp_at d1 hq'
  refine ⟨a, xs, b, ys, z, rfl, s, by rw [l1, List.length_map], e1, s2, by rw [l2, List.length_map]; exact lr, e2, ?_⟩
  have : stepAt t n c = q := by
    simp [stepAt, List.getD_eq_getElem?_getD, hr, hq]
  rw [this]
  exact d2
/-- a step's parts, in the heap -/
theorem step_at {K : PySem.W.Frag} {H : Hp} {v : V} {n x : Nat} (h : Dp K H v (stepD (some (n, x)))) : ∃ a xs, v = .ref a ∧ SqT K H a xs ∧ atI xs 0 = some (.int n) ∧ atI xs 1 = some (.int x) ∧ xs.length = 2 := by
  obtain ⟨a, xs, rfl, s, al⟩ := dp_tup (show Dp K H v (.tuple [.int (n : Nat), .int (x : Nat)]) from h)
  have e : xs = [(n : Int), (x : Int)].map V.int := dps_intsV al
  subst e
  exact ⟨a, _, rfl, s, rfl, rfl, rfl⟩
def walkD : Option (Nat × List Nat) → PyData
  | none => .none
  | some (n, ws) => .tuple [.int (n : Nat), lettersD ws]
theorem take_more {α : Type} {l : List α} {i : Nat} {x : α} (h : l[i]? = some x) : l.take (i + 1) = l.take i ++ [x] := by
  rw [List.take_succ, h]
  rfl
/-! ### data that the law compares: to a depth -/
def okD : Nat → PyData → Bool
  | _, .none => true
  | _, .bool _ => true
  | _, .int _ => true
  | _, .str x => PyData.strOk x
  | n + 1, .list ds => decide (ds.length ≤ 1000000) && ds.all (okD n)
  | n + 1, .tuple ds => decide (ds.length ≤ 1000000) && ds.all (okD n)
  | _, _ => false
theorem okD_canAll {n : Nat} (ih : ∀ d : PyData, okD n d = true → d.canLay0 = true) : ∀ ds : List PyData, ds.all (okD n) = true → PyData.canLayAll0 ds = true
  | [], _ => rfl
  | d :: ds, h => by
    simp only [List.all_cons, Bool.and_eq_true] at h
    simp only [PyData.canLayAll0, Bool.and_eq_true]
    exact ⟨ih d h.1, okD_canAll ih ds h.2⟩
theorem okD_can : ∀ (n : Nat) (d : PyData), okD n d = true → d.canLay0 = true
  | _, .none, _ => rfl
  | _, .bool _, _ => rfl
  | _, .int _, _ => rfl
  | 0, .str x, h => h
  | n + 1, .str x, h => h
  | 0, .list ds, h => by simp [okD] at h
  | 0, .tuple ds, h => by simp [okD] at h
  | 0, .dict ds, h => by simp [okD] at h
  | n + 1, .dict ds, h => by simp [okD] at h
  | n + 1, .list ds, h => by
    simp only [okD, Bool.and_eq_true] at h
    exact okD_canAll (okD_can n) ds h.2
  | n + 1, .tuple ds, h => by
    simp only [okD, Bool.and_eq_true] at h
    exact okD_canAll (okD_can n) ds h.2
def tyD : PyData → String
  | .none => "NoneType"
  | .bool _ => "bool"
  | .int _ => "int"
  | .str _ => "str"
  | .list _ => "list"
  | .tuple _ => "tuple"
  | .dict _ => "dict"
theorem dp_ty {K : PySem.W.Frag} {H : Hp} {v : V} {d : PyData} (h : Dp K H v d) : AnyV K H v (tyD d) := by
  cases h with
  | non => exact .non
  | bl b => exact .bl b
  | int i => exact .int i
  | str x => exact .str x
  | lst s _ => exact .lst s
  | tup s _ => exact .tup s
theorem kit2 {K : PySem.W.Frag} {t c1 c2 : String} {b1 b2 : Bool} (h1 : kitB t c1 = some b1) (h2 : kitB t c2 = some b2) : PySem.W.kitAny K (.type t) [.type c1, .type c2] = some (b1 || b2) := by
  refine kitAny_cons (kit_ty h1) (fun e => ?_) (fun e => by rw [e]; rfl)
  subst e
  refine kitAny_cons (kit_ty h2) (fun e => ?_) (fun e => by rw [e]; rfl)
  subst e
  rfl
theorem ixQ_ok {K : PySem.W.Frag} {H : Hp} {a : Addr} {xs : List V} {i : Int} {v : V} {Q : VK} (h : SqL K H a xs ∨ SqT K H a xs) (e : atI xs i = some v) (q : Q v H) : rIx K (.ref a) (.int i) H Q :=
  h.elim (fun z => .inl ⟨a, xs, i, v, rfl, rfl, z, e, q⟩) fun z => .inr (.inl ⟨a, xs, i, v, rfl, rfl, z, e, q⟩)
theorem seqQ {K : PySem.W.Frag} {H H' : Hp} {a : Addr} {xs : List V} (s : Same H H') (h : SqL K H a xs ∨ SqT K H a xs) : SqL K H' a xs ∨ SqT K H' a xs := h.elim (fun z => .inl (s.seq z)) fun z => .inr (seqT s z)
/-! ### a machine in the heap -/
structure Txt (K : PySem.W.Frag) (C : Addr) : Prop where
  cl : Cls K C
  nT : NoAttr K C "_table"
def Mach (K : PySem.W.Frag) (C : Addr) (H : Hp) (x : Addr) (t : Tab) : Prop := ∃ dx v, H x = some (.ins C dx [("_table", v)]) ∧ Dp K H v (tabD t)
theorem Mach.same {K : PySem.W.Frag} {C : Addr} {H H' : Hp} {x : Addr} {t : Tab} (m : Mach K C H x t) (s : Same H H') : Mach K C H' x t := by
  obtain ⟨dx, v, e, d⟩ := m
  exact ⟨dx, v, s _ _ e, dp_same s d⟩
theorem Mach.keep {K : PySem.W.Frag} {C : Addr} {H H' : Hp} {x : Addr} {t : Tab} {h l : Addr} (m : Mach K C H x t) (s : Src H h l) (k : Keep h l H H') : Mach K C H' x t := by
  obtain ⟨dx, v, e, d⟩ := m
  obtain ⟨ne, st, ix, cs, e1, e2, _⟩ := id s
  exact ⟨dx, v, k _ _ (ne_of e e1 (by intro z; cases z)) (ne_of e e2 (by intro z; cases z)) e, s.keepD k d (noL_tab t)⟩
theorem tab_len {K : PySem.W.Frag} {H : Hp} {v : V} {t : Tab} (h : Dp K H v (tabD t)) : ∃ a xs, v = .ref a ∧ SqT K H a xs ∧ xs.length = t.length := by
  obtain ⟨a, xs, rfl, s, al⟩ := dp_tup (show Dp K H v (.tuple (t.map rowD)) from h)
  exact ⟨a, xs, rfl, s, by rw [dps_len al, List.length_map]⟩
/-- what a step, a row of a table are, of any data -/
def belowD (n : Int) : PyData → Bool
  | .int i => decide (0 ≤ i) && decide (i < n)
  | _ => false
def stepOk (n : Int) : PyData → Bool
  | .none => true
  | .tuple [a, b] => belowD n a && belowD 4 b
  | _ => false
def rowOk (n : Int) : PyData → Bool
  | .tuple ds => (decide (ds.length = 2) || decide (ds.length = 3)) && ds.all (stepOk n)
  | _ => false
theorem stepOk_good {n a x : Nat} (h1 : a < n) (h2 : x < 4) : stepOk (n : Int) (stepD (some (a, x))) = true := by
  have e1 : (a : Int) < (n : Int) := by omega
  have e2 : (x : Int) < 4 := by omega
  have e3 : (0 : Int) ≤ (a : Int) := by omega
  have e4 : (0 : Int) ≤ (x : Int) := by omega
  show ((decide (0 ≤ (a : Int)) && decide ((a : Int) < (n : Int))) && (decide (0 ≤ (x : Int)) && decide ((x : Int) < 4))) = true
  rw [decide_eq_true e1, decide_eq_true e2, decide_eq_true e3, decide_eq_true e4]
  rfl
theorem rowOk_good {t : Tab} {m : Nat} (g : Good t m) {r : List Stp} (hr : r ∈ t) : rowOk (t.length : Int) (rowD r) = true := by
  have lr := g.rows r hr
  show ((decide ((r.map stepD).length = 2) || decide ((r.map stepD).length = 3)) && (r.map stepD).all (stepOk (t.length : Int))) = true
  rw [Bool.and_eq_true, List.all_eq_true]
  refine ⟨?_, fun d hd => ?_⟩
  · rw [List.length_map, lr]
    rcases g.lets with e | e <;> rw [e] <;> rfl
  · obtain ⟨s, hs, rfl⟩ := List.mem_map.mp hd
    cases s with
    | none => rfl
    | some p =>
      obtain ⟨a, x⟩ := p
      obtain ⟨h1, h2⟩ := g.steps r hr a x hs
      exact stepOk_good h1 h2
theorem len_two {α : Type} : ∀ {xs : List α}, xs.length = 2 → ∃ a b, xs = [a, b]
  | [a, b], _ => ⟨a, b, rfl⟩
  | [], h => by cases h
  | [_], h => by cases h
  | _ :: _ :: _ :: _, h => by simp at h
theorem stepOk_long {n : Int} : ∀ {ds : List PyData}, ds.length ≠ 2 → stepOk n (.tuple ds) = false
  | [], _ => rfl
  | [_], _ => rfl
  | [_, _], h => absurd rfl h
  | _ :: _ :: _ :: _, _ => rfl
theorem stepOk_two {n : Int} {a b : PyData} : stepOk n (.tuple [a, b]) = (belowD n a && belowD 4 b) := rfl
end WS
namespace WS
open PySem L2
def top (i : Nat) : Stmt := PySem.Challenge.pw_whichstand_k02_whole_walks.main.body.getD i (.Pass ⟨0, 0, 0, 0⟩)
abbrev s_is_below : Stmt := top 7
abbrev N_is_below : List Str := ["value", "limit"]
abbrev P_is_below : List Str := ["value", "limit"]
theorem sc_is_below : FnScope N_is_below P_is_below (defScope s_is_below) := ⟨rfl, rfl, rfl, by decide +kernel, rfl, by decide +kernel, by decide +kernel⟩
abbrev s_check_stand : Stmt := top 8
abbrev N_check_stand : List Str := ["machine", "value"]
abbrev P_check_stand : List Str := ["machine", "value"]
theorem sc_check_stand : FnScope N_check_stand P_check_stand (defScope s_check_stand) := ⟨rfl, rfl, rfl, by decide +kernel, rfl, by decide +kernel, by decide +kernel⟩
abbrev s_check_row : Stmt := top 9
abbrev N_check_row : List Str := ["machine", "value", "index", "letter"]
abbrev P_check_row : List Str := ["machine", "value"]
theorem sc_check_row : FnScope N_check_row P_check_row (defScope s_check_row) := ⟨rfl, rfl, rfl, by decide +kernel, rfl, by decide +kernel, by decide +kernel⟩
abbrev s_Machine_init : Stmt := inClass (top 14) 0
abbrev N_Machine_init : List Str := ["self", "table"]
abbrev P_Machine_init : List Str := ["self", "table"]
theorem sc_Machine_init : FnScope N_Machine_init P_Machine_init (defScope s_Machine_init) := ⟨rfl, rfl, rfl, by decide +kernel, rfl, by decide +kernel, by decide +kernel⟩
abbrev s_Machine_len : Stmt := inClass (top 14) 1
abbrev N_Machine_len : List Str := ["self"]
abbrev P_Machine_len : List Str := ["self"]
theorem sc_Machine_len : FnScope N_Machine_len P_Machine_len (defScope s_Machine_len) := ⟨rfl, rfl, rfl, by decide +kernel, rfl, by decide +kernel, by decide +kernel⟩
abbrev s_Machine_eq : Stmt := inClass (top 14) 2
abbrev N_Machine_eq : List Str := ["self", "other"]
abbrev P_Machine_eq : List Str := ["self", "other"]
theorem sc_Machine_eq : FnScope N_Machine_eq P_Machine_eq (defScope s_Machine_eq) := ⟨rfl, rfl, rfl, by decide +kernel, rfl, by decide +kernel, by decide +kernel⟩
abbrev s_Machine_table : Stmt := inClass (top 14) 3
abbrev N_Machine_table : List Str := ["self"]
abbrev P_Machine_table : List Str := ["self"]
theorem sc_Machine_table : FnScope N_Machine_table P_Machine_table (defScope s_Machine_table) := ⟨rfl, rfl, rfl, by decide +kernel, rfl, by decide +kernel, by decide +kernel⟩
abbrev s_Machine_letters : Stmt := inClass (top 14) 4
abbrev N_Machine_letters : List Str := ["self"]
abbrev P_Machine_letters : List Str := ["self"]
theorem sc_Machine_letters : FnScope N_Machine_letters P_Machine_letters (defScope s_Machine_letters) := ⟨rfl, rfl, rfl, by decide +kernel, rfl, by decide +kernel, by decide +kernel⟩
abbrev s_walk : Stmt := top 15
abbrev N_walk : List Str := ["machine", "stand", "row", "at", "written", "letter", "step"]
abbrev P_walk : List Str := ["machine", "stand", "row"]
theorem sc_walk : FnScope N_walk P_walk (defScope s_walk) := ⟨rfl, rfl, rfl, by decide +kernel, rfl, by decide +kernel, by decide +kernel⟩
abbrev s__check_table : Stmt := top 16
abbrev N__check_table : List Str := ["value", "index", "steps"]
abbrev P__check_table : List Str := ["value"]
theorem sc__check_table : FnScope N__check_table P__check_table (defScope s__check_table) := ⟨rfl, rfl, rfl, by decide +kernel, rfl, by decide +kernel, by decide +kernel⟩
abbrev s__is_table_row : Stmt := top 17
abbrev N__is_table_row : List Str := ["value", "stands", "step"]
abbrev P__is_table_row : List Str := ["value", "stands"]
theorem sc__is_table_row : FnScope N__is_table_row P__is_table_row (defScope s__is_table_row) := ⟨rfl, rfl, rfl, by decide +kernel, rfl, by decide +kernel, by decide +kernel⟩
abbrev s__is_step : Stmt := top 18
abbrev N__is_step : List Str := ["value", "stands"]
abbrev P__is_step : List Str := ["value", "stands"]
theorem sc__is_step : FnScope N__is_step P__is_step (defScope s__is_step) := ⟨rfl, rfl, rfl, by decide +kernel, rfl, by decide +kernel, by decide +kernel⟩
abbrev s__law_mix : Stmt := top 20
abbrev N__law_mix : List Str := ["_law_script", "_law_seed", "_law_state", "_law_cell"]
abbrev P__law_mix : List Str := ["_law_script", "_law_seed"]
theorem sc__law_mix : FnScope N__law_mix P__law_mix (defScope s__law_mix) := ⟨rfl, rfl, rfl, by decide +kernel, rfl, by decide +kernel, by decide +kernel⟩
abbrev s__law_next : Stmt := top 21
abbrev N__law_next : List Str := ["_law_h", "_law_cap", "_law_cell"]
abbrev P__law_next : List Str := ["_law_h", "_law_cap"]
theorem sc__law_next : FnScope N__law_next P__law_next (defScope s__law_next) := ⟨rfl, rfl, rfl, by decide +kernel, rfl, by decide +kernel, by decide +kernel⟩
abbrev s__law_alike : Stmt := top 22
abbrev N__law_alike : List Str := ["_law_found", "_law_due", "_law_k"]
abbrev P__law_alike : List Str := ["_law_found", "_law_due"]
theorem sc__law_alike : FnScope N__law_alike P__law_alike (defScope s__law_alike) := ⟨rfl, rfl, rfl, by decide +kernel, rfl, by decide +kernel, by decide +kernel⟩
abbrev s__law_pick : Stmt := top 23
abbrev N__law_pick : List Str := ["_law_h", "_law_things"]
abbrev P__law_pick : List Str := ["_law_h", "_law_things"]
theorem sc__law_pick : FnScope N__law_pick P__law_pick (defScope s__law_pick) := ⟨rfl, rfl, rfl, by decide +kernel, rfl, by decide +kernel, by decide +kernel⟩
abbrev s__law_table : Stmt := top 24
abbrev N__law_table : List Str := ["_law_h", "_law_many", "_law_letters", "_law_cap", "_law_lacks", "_law_near", "_law_rows", "_law_stand", "_law_row_here", "_law_letter", "_law_goal", "_law_sign"]
abbrev P__law_table : List Str := ["_law_h"]
theorem sc__law_table : FnScope N__law_table P__law_table (defScope s__law_table) := ⟨rfl, rfl, rfl, by decide +kernel, rfl, by decide +kernel, by decide +kernel⟩
abbrev s__law_walk : Stmt := top 25
abbrev N__law_walk : List Str := ["_law_table_here", "_law_stand", "_law_row_here", "_law_here", "_law_signs", "_law_letter", "_law_step"]
abbrev P__law_walk : List Str := ["_law_table_here", "_law_stand", "_law_row_here"]
theorem sc__law_walk : FnScope N__law_walk P__law_walk (defScope s__law_walk) := ⟨rfl, rfl, rfl, by decide +kernel, rfl, by decide +kernel, by decide +kernel⟩
abbrev s__law_row : Stmt := top 26
abbrev N__law_row : List Str := ["_law_h", "_law_table_here", "_law_many", "_law_k"]
abbrev P__law_row : List Str := ["_law_h", "_law_table_here", "_law_many"]
theorem sc__law_row : FnScope N__law_row P__law_row (defScope s__law_row) := ⟨rfl, rfl, rfl, by decide +kernel, rfl, by decide +kernel, by decide +kernel⟩
abbrev s_law : Stmt := top 27
abbrev N_law : List Str := ["_law_script", "_law_h", "_law_turn", "_law_table_here", "_law_many", "_law_stand", "_law_row_here"]
abbrev P_law : List Str := ["_law_script"]
theorem sc_law : FnScope N_law P_law (defScope s_law) := ⟨rfl, rfl, rfl, by decide +kernel, rfl, by decide +kernel, by decide +kernel⟩
local macro_rules | `(tactic| walk_at "rd1") => `(tactic| first
  | refine ⟨_, rfl, ?_⟩
  | refine ⟨_, _, rfl, rfl, ?_⟩
  | refine .inl ⟨_, rfl, ?_⟩
  | refine ⟨.inr ⟨by decide, by decide⟩, ?_⟩
  | refine ⟨by intro z; omega, ?_⟩)
local macro_rules | `(tactic| walk_at "rd") => `(tactic| repeat walk_at "rd1")
section
variable {P : Program} {w : World} {K : PySem.W.Frag} {mg : Str → Option Value} {base : Heap}
/-! ### is_below -/
def below (v : V) (n : Int) : Bool := match v with
  | .int i => decide (0 ≤ i) && decide (i < n)
  | _ => false
def spBelow (K : PySem.W.Frag) : Sp := fun vs H Q _ => ∃ (v : V) (t : String) (n : Int), vs = [v, .int n] ∧ AnyV K H v t ∧ Q (.bl (below v n)) H
theorem ok_is_below {f : Addr} {fd : FuncData} (F : Fun K "is_below" "is_below" s_is_below f fd) (B : Blt mg) : FnOk P w K mg base CX0 1 f fd P_is_below (spBelow K) := by
  refine F.ok sc_is_below (fun vs H Q E h => ?_) (fun cdv A outer s H vs Q E hr h => ?_)
  · obtain ⟨v, t, n, rfl, _⟩ := h
    rfl
  · obtain ⟨v, t, n, rfl, hv, k⟩ := h
    refine ⟨_, (pss_cons (ps_if (PW.pt (pw_or (pt_val (pe_callB (k_isi K) (by rfl) B.n_isinstance (by decide +kernel) (pa_cons (pv 0) (pa_cons (pe_bltn (v := .ty "bool") (u := .type "bool") (by rfl) B.n_bool (by decide +kernel) rfl) pa_nil)))) (pw_or1 (pt_not (pt_val (pe_callB (k_isi K) (by rfl) B.n_isinstance (by decide +kernel) (pa_cons (pv 0) (pa_cons (pe_bltn (v := .ty "int") (u := .type "int") (by rfl) B.n_int (by decide +kernel) rfl) pa_nil)))))))) (pss_one (ps_ret pe_bl)) pss_nil)
 (pss_one (ps_ret (pe_chain op_le op_lt pe_int (pv 0) (pv 1))))), ?_⟩
    obtain ⟨b1, b2, e1, e2, q1, q2⟩ : ∃ b1 b2 : Bool, kitB t "bool" = some b1 ∧ kitB t "int" = some b2 ∧ ((b1 || !b2) = true → below v n = false) ∧ ((b1 || !b2) = false → ∃ i, v = .int i) := by
      cases hv with
      | int i => exact ⟨false, true, by decide +kernel, by decide +kernel, fun q => (nomatch q), fun _ => ⟨i, rfl⟩⟩
      | non => exact ⟨false, false, by decide +kernel, by decide +kernel, fun _ => rfl, fun q => (nomatch q)⟩
      | bl b => exact ⟨true, true, by decide +kernel, by decide +kernel, fun _ => rfl, fun q => (nomatch q)⟩
      | str z => exact ⟨false, false, by decide +kernel, by decide +kernel, fun _ => rfl, fun q => (nomatch q)⟩
      | lst h => exact ⟨false, false, by decide +kernel, by decide +kernel, fun _ => rfl, fun q => (nomatch q)⟩
      | tup h => exact ⟨false, false, by decide +kernel, by decide +kernel, fun _ => rfl, fun q => (nomatch q)⟩
      | dct h => exact ⟨false, false, by decide +kernel, by decide +kernel, fun _ => rfl, fun q => (nomatch q)⟩
    refine ⟨_, rfl, _, _, _, _, b1, rfl, .ty "bool", hv.ty, kit_any e1, b1, rfl, ?_⟩
    cases b1 with
    | true => exact iteT (by rw [q1 rfl] at k; exact k)
    | false =>
      refine iteF ⟨_, rfl, _, _, _, _, b2, rfl, .ty "int", hv.ty, kit_any e2, b2, rfl, ?_⟩
      cases b2 with
      | false => exact iteT (by rw [q1 rfl] at k; exact k)
      | true =>
        obtain ⟨i, rfl⟩ := q2 rfl
        refine iteF ⟨_, rfl, _, _, rfl, rfl, _, rfl, ?_⟩
        by_cases c : (0 : Int) ≤ i
        · rw [decide_eq_true c]
          refine iteT ⟨_, rfl, _, _, rfl, rfl, ?_⟩
          have e : below (.int i) n = decide (i < n) := by simp [below, c]
          rw [e] at k
          exact k
        · rw [decide_eq_false c]
          refine iteF ?_
          have e : below (.int i) n = false := by simp [below, c]
          rw [e] at k
          exact k
/-! ### _is_step, _is_table_row -/
theorem below_d {H : Hp} {v : V} {d : PyData} (h : Dp K H v d) (n : Int) : below v n = belowD n d := by
  cases h <;> rfl
def spStep (K : PySem.W.Frag) : Sp := fun vs H Q _ => ∃ (v : V) (d : PyData) (n : Int), vs = [v, .int n] ∧ Dp K H v d ∧ Q (.bl (stepOk n d)) H
theorem ok_is_step {f : Addr} {fd : FuncData} (F : Fun K "_is_step" "_is_step" s__is_step f fd) (B : Blt mg) {tk : Tok} (g_WRITTEN_LETTERS : mg "WRITTEN_LETTERS" = some (.int 4 tk))
    (G_is_below : DefK P w K mg base CX0 1 "is_below" P_is_below (spBelow K)) : FnOk P w K mg base CX0 2 f fd P__is_step (spStep K) := by
  refine F.ok sc__is_step (fun vs H Q E h => ?_) (fun cdv A outer s H vs Q E hr h => ?_)
  · obtain ⟨v, d, n, rfl, _⟩ := h
    rfl
  · obtain ⟨v, d, n, rfl, dv, k⟩ := h
    refine ⟨_, (pss_cons (ps_if (pt_cmpR op_isN (pv 0) pe_non (nomark _)) (pss_one (ps_ret pe_bl)) pss_nil)
 (pss_cons (ps_if (PW.pt (pw_or (pt_not (pt_val (pe_callB (k_isi K) (by rfl) B.n_isinstance (by decide +kernel) (pa_cons (pv 0) (pa_cons (pe_bltn (v := .ty "tuple") (u := .type "tuple") (by rfl) B.n_tuple (by decide +kernel) rfl) pa_nil))))) (pw_or1 (pt_cmpR op_ne (pe_callB (k_len K) (by rfl) B.n_len boot_len (pa_cons (pv 0) pa_nil)) pe_int (nomark _))))) (pss_one (ps_ret pe_bl)) pss_nil)
 (pss_one (ps_ret (pe_and (pe_def G_is_below (hr.mono (by omega)) (by rfl) (pa_cons (pe_ix (k_ixT K) (pv 0) pe_int (fun _ _ => rfl)) (pa_cons (pv 1) pa_nil))) (pe_one (pe_def G_is_below (hr.mono (by omega)) (by rfl) (pa_cons (pe_ix (k_ixT K) (pv 0) pe_int (fun _ _ => rfl)) (pa_cons (pe_gI (by rfl) g_WRITTEN_LETTERS) pa_nil))))))))), ?_⟩
    refine ⟨_, rfl, rfl, _, rfl, ?_⟩
    by_cases hv : v = .non
    · subst hv
      cases dv
      rw [decide_eq_true rfl]
      exact k
    rw [decide_eq_false hv]
    have tv := dp_ty dv
    obtain ⟨e1, e2⟩ | ⟨ds, rfl⟩ : (kitB (tyD d) "tuple" = some false ∧ stepOk n d = false) ∨ ∃ ds, d = .tuple ds := by
      cases dv with
      | non => exact absurd rfl hv
      | bl b => exact .inl ⟨(show kitB "bool" "tuple" = some false by decide +kernel), rfl⟩
      | int b => exact .inl ⟨(show kitB "int" "tuple" = some false by decide +kernel), rfl⟩
      | str b => exact .inl ⟨(show kitB "str" "tuple" = some false by decide +kernel), rfl⟩
      | lst _ _ => exact .inl ⟨(show kitB "list" "tuple" = some false by decide +kernel), rfl⟩
      | tup _ _ => exact .inr ⟨_, rfl⟩
    · refine ⟨_, rfl, _, _, _, _, false, rfl, .ty _, tv.ty, kit_any e1, _, rfl, ?_⟩
      rw [e2] at k
      exact k
    · obtain ⟨a, xs, rfl, sx, al⟩ := dp_tup dv
      have lx := dps_len al
      refine ⟨_, rfl, _, _, _, _, true, rfl, .ty _, tv.ty, kit_any (show kitB "tuple" "tuple" = some true by decide +kernel), _, rfl, _, rfl, a, xs, rfl, .inr sx, rfl, _, rfl, ?_⟩
      by_cases h2 : xs.length = 2
      · have e : decide (V.int ((xs.length : Nat) : Int) = V.int 2) = true := decide_eq_true (by rw [h2]; rfl)
        rw [e]
        obtain ⟨d1, d2, rfl⟩ := len_two (lx.symm.trans h2)
        cases al with
        | cons q1 al =>
          cases al with
          | cons q2 al =>
            cases al
            obtain ⟨t1, a1⟩ := dp_any q1
            obtain ⟨t2, a2⟩ := dp_any q2
            rw [stepOk_two] at k
            refine ⟨_, rfl, a, _, _, _, rfl, rfl, sx, rfl, _, rfl, _, t1, n, rfl, a1, _, rfl, ?_⟩
            rw [below_d q1]
            cases eb : belowD n d1 with
            | false =>
              rw [eb] at k
              exact k
            | true =>
              rw [eb] at k
              refine ⟨_, rfl, a, _, _, _, rfl, rfl, sx, rfl, _, t2, 4, rfl, a2, ?_⟩
              rw [below_d q2]
              exact k
      · have e : decide (V.int ((xs.length : Nat) : Int) = V.int 2) = false := decide_eq_false (fun z => h2 (by have := V.int.inj z; omega))
        rw [e]
        rw [stepOk_long (fun z => h2 (lx.trans z))] at k
        exact k
def spRowOk (K : PySem.W.Frag) : Sp := fun vs H Q _ => ∃ (v : V) (d : PyData) (n : Int), vs = [v, .int n] ∧ Dp K H v d ∧ ∀ H', Same H H' → Q (.bl (rowOk n d)) H'
theorem ok_is_table_row {f : Addr} {fd : FuncData} (F : Fun K "_is_table_row" "_is_table_row" s__is_table_row f fd) (B : Blt mg) {lc : Addr} (g_LETTER_COUNTS : mg "LETTER_COUNTS" = some (.ref lc)) (hLC : ∀ H : Hp, SqT K H lc [.int 2, .int 3])
    (G__is_step : DefK P w K mg base CX0 2 "_is_step" P__is_step (spStep K)) : FnOk P w K mg base CX0 3 f fd P__is_table_row (spRowOk K) := by
  refine F.ok sc__is_table_row (fun vs H Q E h => ?_) (fun cdv A outer s H vs Q E hr h => ?_)
  · obtain ⟨v, d, n, rfl, _⟩ := h
    rfl
  · obtain ⟨v, d, n, rfl, dv, k⟩ := h
    refine ⟨_, (pss_cons (ps_if (PW.pt (pw_or (pt_not (pt_val (pe_callB (k_isi K) (by rfl) B.n_isinstance (by decide +kernel) (pa_cons (pv 0) (pa_cons (pe_bltn (v := .ty "tuple") (u := .type "tuple") (by rfl) B.n_tuple (by decide +kernel) rfl) pa_nil))))) (pw_or1 (pt_cmpR (k_notIn K) (pe_callB (k_len K) (by rfl) B.n_len boot_len (pa_cons (pv 0) pa_nil)) (pe_gR (by rfl) g_LETTER_COUNTS) (by rfl))))) (pss_one (ps_ret pe_bl)) pss_nil)
 (pss_one (ps_ret (pe_callB (k_all K rfl) (by rfl) B.n_all (by decide +kernel) (pa_cons (pe_lc (own := ([("step", 2)] : List (Str × Nat))) (g := gName 2) (tt := tYes) rfl sc__is_table_row.nd (k_pit K (pv 0)) (blkOk_by (own := ([("step", 2)] : List (Str × Nat))) (N := N__is_table_row) (sc := defScope s__is_table_row) (by decide +kernel)) (fun _ _ _ _ _ => by exact (pg_name (i := 2) sc__is_table_row.nd rfl (Or.inl rfl))) (fun _ _ _ _ _ => by exact pts_nil) (fun _ _ _ _ _ => by exact (pe_def G__is_step (hr.mono (by omega)) (by rfl) (pa_cons (pv 2) (pa_cons (pv 1) pa_nil))))) pa_nil))))), ?_⟩
    have tv := dp_ty dv
    obtain ⟨e1, e2⟩ | ⟨ds, rfl⟩ : (kitB (tyD d) "tuple" = some false ∧ rowOk n d = false) ∨ ∃ ds, d = .tuple ds := by
      cases dv with
      | non => exact .inl ⟨(show kitB "NoneType" "tuple" = some false by decide +kernel), rfl⟩
      | bl b => exact .inl ⟨(show kitB "bool" "tuple" = some false by decide +kernel), rfl⟩
      | int b => exact .inl ⟨(show kitB "int" "tuple" = some false by decide +kernel), rfl⟩
      | str b => exact .inl ⟨(show kitB "str" "tuple" = some false by decide +kernel), rfl⟩
      | lst _ _ => exact .inl ⟨(show kitB "list" "tuple" = some false by decide +kernel), rfl⟩
      | tup _ _ => exact .inr ⟨_, rfl⟩
    · refine ⟨_, rfl, _, _, _, _, false, rfl, .ty _, tv.ty, kit_any e1, _, rfl, ?_⟩
      have k' := k H (Same.refl H)
      rw [e2] at k'
      exact k'
    · obtain ⟨a, xs, rfl, sx, al⟩ := dp_tup dv
      have lx := dps_len al
      have inv : inV (.int ((xs.length : Nat) : Int)) [.int 2, .int 3] = (decide (ds.length = 2) || decide (ds.length = 3)) := by
        rw [Bool.eq_iff_iff]
        simp [inV, eqV, lx]
        omega
      refine ⟨_, rfl, _, _, _, _, true, rfl, .ty _, tv.ty, kit_any (show kitB "tuple" "tuple" = some true by decide +kernel), _, rfl, _, rfl, a, xs, rfl, .inr sx, lc, _, rfl, .inr (hLC H), rfl, rfl, _, rfl, ?_⟩
      rw [if_pos rfl, inv]
      cases eb : (decide (ds.length = 2) || decide (ds.length = 3)) with
      | false =>
        have k' := k H (Same.refl H)
        have er : rowOk n (.tuple ds) = false := by
          show ((decide (ds.length = 2) || decide (ds.length = 3)) && ds.all (stepOk n)) = false
          rw [eb]
          rfl
        rw [er] at k'
        exact k'
      | true =>
        refine ⟨_, rfl, a, rfl, ⟨_, sx⟩, fun D hD => lc_tup (K := K) (a := a) (xs := xs) (fun i H' => Same H H' ∧ H' D = some (.lst (((ds.take i).map (stepOk n)).map V.bl))) ⟨same_new hD _, upd_same⟩ (fun i H' _ z => seqT z.1 sx) ?_ ?_⟩
        · rintro i x H1 hx ⟨s1, eD⟩
          obtain ⟨d, hd, dx⟩ := dps_getV (dps_same s1 al) hx
          refine ⟨rfl, _, rfl, _, rfl, x, d, n, rfl, dx, _, eD, ?_, ?_, ?_⟩
          · rw [List.length_map, List.length_map, List.length_take]
            have : ds.length = 2 ∨ ds.length = 3 := by simpa using eb
            exact small1000 (by omega)
          · intro b o e
            rw [upd_ne (ne_of_none e hD)]
            exact s1 b o e
          · rw [upd_same, take_more hd, List.map_append, List.map_append]
            rfl
        · rintro H1 ⟨s1, eD⟩
          rw [lx, List.take_length] at eD
          refine ⟨D, _, rfl, SqL.of eD, ?_⟩
          have er : rowOk n (.tuple ds) = (ds.map (stepOk n)).all id := by
            show ((decide (ds.length = 2) || decide (ds.length = 3)) && ds.all (stepOk n)) = _
            rw [eb, List.all_map]
            rfl
          have k' := k H1 s1
          rw [er] at k'
          exact k'
/-! ### _check_table, of a good one -/
def spTabOk (K : PySem.W.Frag) : Sp := fun vs H Q _ => ∃ (v : V) (t : Tab) (m : Nat), vs = [v] ∧ Good t m ∧ Dp K H v (tabD t) ∧ ∀ H', Same H H' → Q .non H'
theorem ok_check_table {f : Addr} {fd : FuncData} (F : Fun K "_check_table" "_check_table" s__check_table f fd) (B : Blt mg) {tk : Tok} (g_MOST_STANDS : mg "MOST_STANDS" = some (.int 6 tk))
    (G__is_table_row : DefK P w K mg base CX0 3 "_is_table_row" P__is_table_row (spRowOk K)) : FnOk P w K mg base CX0 4 f fd P__check_table (spTabOk K) := by
  refine F.ok sc__check_table (fun vs H Q E h => ?_) (fun cdv A outer s H vs Q E hr h => ?_)
  · obtain ⟨v, t, m, rfl, _⟩ := h
    rfl
  · obtain ⟨v, t, m, rfl, g, dv, k⟩ := h
    refine ⟨_, (pss_cons (ps_if (PW.pt (pw_or (pt_not (pt_val (pe_callB (k_isi K) (by rfl) B.n_isinstance (by decide +kernel) (pa_cons (pv 0) (pa_cons (pe_bltn (v := .ty "tuple") (u := .type "tuple") (by rfl) B.n_tuple (by decide +kernel) rfl) pa_nil))))) (pw_or1 (pt_not (pt_chain op_le op_le pe_int (pe_callB (k_len K) (by rfl) B.n_len boot_len (pa_cons (pv 0) pa_nil)) (pe_gI (by rfl) g_MOST_STANDS)))))) (pss_one ps_never) pss_nil)
 (pss_one (ps_for PassesOwn.never rfl (EnT.pi_enumT (by rfl) B.n_enumerate (pa_cons (pv 0) pa_nil)) (k_tgs (n := 2) K rfl (pgs_cons (pg_name (i := 1) sc__check_table.nd rfl (Or.inl rfl)) (pgs_cons (pg_name (i := 2) sc__check_table.nd rfl (Or.inl rfl)) pgs_nil)))
 (pss_one (ps_if (PW.pt (pw_or (pt_not (pt_val (pe_def G__is_table_row (hr.mono (by omega)) (by rfl) (pa_cons (pv 2) (pa_cons (pe_callB (k_len K) (by rfl) B.n_len boot_len (pa_cons (pv 0) pa_nil)) pa_nil))))) (pw_or1 (pt_cmpR op_ne (pe_callB (k_len K) (by rfl) B.n_len boot_len (pa_cons (pv 2) pa_nil)) (pe_callB (k_len K) (by rfl) B.n_len boot_len (pa_cons (pe_ix (k_ixT K) (pv 0) pe_int (fun _ _ => rfl)) pa_nil)) (nomark _))))) (pss_one ps_never) pss_nil))))), ?_⟩
    have tv := dp_ty dv
    obtain ⟨a, xs, rfl, sx, al⟩ := dp_tup (show Dp K H v (.tuple (t.map rowD)) from dv)
    have lx : xs.length = t.length := by rw [dps_len al, List.length_map]
    have lo := g.lo
    have hi := g.hi
    have c1 : decide ((1 : Int) ≤ ((xs.length : Nat) : Int)) = true := decide_eq_true (by omega)
    have c2 : decide (((xs.length : Nat) : Int) ≤ 6) = true := decide_eq_true (by omega)
    refine ⟨_, rfl, _, _, _, _, true, rfl, .ty _, tv.ty, kit_any (show kitB "tuple" "tuple" = some true by decide +kernel), _, rfl, _, rfl, a, xs, rfl, .inr sx, _, _, rfl, rfl, _, rfl, ?_⟩
    rw [c1]
    refine ⟨_, _, rfl, rfl, _, rfl, ?_⟩
    rw [c2]
    refine ⟨_, rfl, a, xs, rfl, sx, EnT.for_enT (K := K) (a := a) (xs := xs) (fun i σ H' => Same H H' ∧ ∃ u1 u2, σ = [some (.ref a), u1, u2]) ⟨Same.refl H, none, none, rfl⟩ (fun i σ H' _ z => seqT z.1 sx) ?_ ?_⟩
    · rintro i x T σ H1 hx ⟨s1, u1, u2, rfl⟩ hT
      have s2 := s1.trans (same_new hT (HO.tup [V.int (i : Nat), x]))
      have eT : (upd H1 T (.tup [.int (i : Nat), x])) T = some (.tup [.int (i : Nat), x]) := upd_same
      revert s2 eT
      generalize upd H1 T (.tup [.int (i : Nat), x]) = H2
      intro s2 eT
      obtain ⟨d, hd, dx⟩ := dps_getV (dps_same s2 al) hx
      rw [List.getElem?_map] at hd
      obtain ⟨r, hr', rfl⟩ : ∃ r, t[i]? = some r ∧ d = rowD r := by
        cases z : t[i]? with
        | none => rw [z] at hd; cases hd
        | some r => rw [z] at hd; exact ⟨r, rfl, (Option.some.inj hd).symm⟩
      have rm := List.mem_of_getElem? hr'
      have ro := rowOk_good g rm
      obtain ⟨b, ys, rfl, sb, bl⟩ := dp_tup (show Dp K H2 x (.tuple (r.map stepD)) from dx)
      have lb : ys.length = m := by rw [dps_len bl, List.length_map]; exact g.rows r rm
      obtain ⟨r0, hr0⟩ : ∃ r0, t[0]? = some r0 := ⟨_, List.getElem?_eq_getElem (by omega)⟩
      have h0 : (t.map rowD)[0]? = some (rowD r0) := by rw [List.getElem?_map, hr0]; rfl
      obtain ⟨x0, hx0, dx0⟩ := dps_get (dps_same s2 al) h0
      obtain ⟨b0, ys0, rfl, sb0, bl0⟩ := dp_tup (show Dp K H2 x0 (.tuple (r0.map stepD)) from dx0)
      have lb0 : ys0.length = m := by rw [dps_len bl0, List.length_map]; exact g.rows r0 (List.mem_of_getElem? hr0)
      refine ⟨T, _, rfl, SqT.of eT, rfl, _, _, rfl, _, _, rfl, rfl, ?_⟩
      refine ⟨_, rfl, _, rfl, a, xs, rfl, .inr (seqT s2 sx), .ref b, rowD r, _, rfl, dx, fun H3 s3 => ⟨_, rfl, ?_⟩⟩
      rw [lx, ro]
      refine ⟨_, rfl, b, ys, rfl, .inr (seqT s3 sb), _, rfl, a, xs, _, _, rfl, rfl, seqT (s2.trans s3) sx, atI_nat hx0, b0, ys0, rfl, .inr (seqT s3 sb0), rfl, _, rfl, ?_⟩
      rw [decide_eq_true (by rw [lb, lb0])]
      exact ⟨s2.trans s3, _, _, rfl⟩
    · rintro σ H1 ⟨s1, u1, u2, rfl⟩
      exact k H1 s1
/-! ### Machine -/
section
variable {C : Addr}
def spMInit (K : PySem.W.Frag) (C : Addr) : Sp := fun vs H Q _ => ∃ (p dx : Addr) (v : V) (t : Tab) (m : Nat), vs = [.ref p, v] ∧ H p = some (.ins C dx []) ∧ Good t m ∧ Dp K H v (tabD t) ∧
  ∀ H', Mach K C H' p t → (∀ b o, b ≠ p → H b = some o → H' b = some o) → Q .non H'
theorem ok_Machine_init {f : Addr} {fd : FuncData} (F : Fun K "__init__" "Machine.__init__" s_Machine_init f fd) (T : Txt K C)
    (G__check_table : DefK P w K mg base CX0 4 "_check_table" P__check_table (spTabOk K)) : FnOk P w K mg base CX0 5 f fd P_Machine_init (spMInit K C) := by
  refine F.ok sc_Machine_init (fun vs H Q E h => ?_) (fun cdv A outer s H vs Q E hr h => ?_)
  · obtain ⟨p, dx, v, t, m, rfl, _⟩ := h
    rfl
  · obtain ⟨p, dx, v, t, m, rfl, hp, g, dv, k⟩ := h
    refine ⟨_, (pss_cons (ps_expr (pe_def G__check_table (hr.mono (by omega)) (by rfl) (pa_cons (pv 1) pa_nil)))
 (pss_one (ps_fld (pv 0) (pv 1) rfl))), ?_⟩
    refine ⟨_, rfl, v, t, m, rfl, g, dv, fun H1 s1 => ⟨_, rfl, _, rfl, p, C, dx, [], rfl, s1 _ _ hp, T.cl, T.nT, (by show 0 < 1000; decide), ?_⟩⟩
    have e1 := s1 _ _ hp
    refine k _ ⟨dx, v, upd_same, ?_⟩ (fun b o n e => by rw [upd_ne n]; exact s1 _ _ e)
    refine dp_monoT (fun a xs z => ?_) (dp_same s1 dv) (noL_tab t)
    rcases z with (z | ⟨u, z⟩) | z
    · exact .inl (.inl (by rw [upd_ne (ne_of z e1 (by intro q; cases q))]; exact z))
    · exact .inl (.inr ⟨u, by rw [upd_ne (ne_of z e1 (by intro q; cases q))]; exact z⟩)
    · exact .inr z
def spMGet (K : PySem.W.Frag) (C : Addr) : Sp := fun vs H Q _ => ∃ (p dx : Addr) (v : V), vs = [.ref p] ∧ H p = some (.ins C dx [("_table", v)]) ∧ Q v H
theorem ok_Machine_table {f : Addr} {fd : FuncData} (F : Fun K "table" "Machine.table" s_Machine_table f fd) (T : Txt K C) : FnOk P w K mg base CX0 1 f fd P_Machine_table (spMGet K C) := by
  refine F.ok sc_Machine_table (fun vs H Q E h => ?_) (fun cdv A outer s H vs Q E hr h => ?_)
  · obtain ⟨p, dx, v, rfl, _⟩ := h
    rfl
  · obtain ⟨p, dx, v, rfl, hp, k⟩ := h
    refine ⟨_, (pss_one (ps_ret (pe_fld (pv 0) rfl))), ?_⟩
    exact ⟨_, rfl, p, C, dx, _, v, rfl, hp, T.cl, T.nT, rfl, k⟩
def spMLen (K : PySem.W.Frag) (C : Addr) : Sp := fun vs H Q _ => ∃ (p : Addr) (t : Tab), vs = [.ref p] ∧ Mach K C H p t ∧ Q (.int (t.length : Nat)) H
theorem ok_Machine_len {f : Addr} {fd : FuncData} (F : Fun K "__len__" "Machine.__len__" s_Machine_len f fd) (T : Txt K C) (B : Blt mg) : FnOk P w K mg base CX0 1 f fd P_Machine_len (spMLen K C) := by
  refine F.ok sc_Machine_len (fun vs H Q E h => ?_) (fun cdv A outer s H vs Q E hr h => ?_)
  · obtain ⟨p, t, rfl, _⟩ := h
    rfl
  · obtain ⟨p, t, rfl, ⟨dx, v, hp, dv⟩, k⟩ := h
    obtain ⟨a, xs, rfl, sx, lx⟩ := tab_len dv
    refine ⟨_, (pss_one (ps_ret (pe_callB (k_len K) (by rfl) B.n_len boot_len (pa_cons (pe_fld (pv 0) rfl) pa_nil)))), ?_⟩
    rw [← lx] at k
    exact ⟨_, rfl, p, C, dx, _, .ref a, rfl, hp, T.cl, T.nT, rfl, a, xs, rfl, .inr sx, k⟩
def spMLet (K : PySem.W.Frag) (C : Addr) : Sp := fun vs H Q _ => ∃ (p : Addr) (t : Tab) (m : Nat), vs = [.ref p] ∧ Mach K C H p t ∧ Good t m ∧ Q (.int (m : Nat)) H
theorem ok_Machine_letters {f : Addr} {fd : FuncData} (F : Fun K "letters" "Machine.letters" s_Machine_letters f fd) (T : Txt K C) (B : Blt mg) : FnOk P w K mg base CX0 1 f fd P_Machine_letters (spMLet K C) := by
  refine F.ok sc_Machine_letters (fun vs H Q E h => ?_) (fun cdv A outer s H vs Q E hr h => ?_)
  · obtain ⟨p, t, m, rfl, _⟩ := h
    rfl
  · obtain ⟨p, t, m, rfl, ⟨dx, v, hp, dv⟩, g, k⟩ := h
    obtain ⟨a, xs, b, ys, z, rfl, h1, lx, e1, h2, ly, _⟩ := tab_at (n := 0) (c := 0) g dv g.lo (by rcases g.lets with e | e <;> omega)
    refine ⟨_, (pss_one (ps_ret (pe_callB (k_len K) (by rfl) B.n_len boot_len (pa_cons (pe_ix (k_ixT K) (pe_fld (pv 0) rfl) pe_int (fun _ _ => rfl)) pa_nil)))), ?_⟩
    rw [← ly] at k
    exact ⟨_, rfl, p, C, dx, _, .ref a, rfl, hp, T.cl, T.nT, rfl, a, xs, _, _, rfl, rfl, h1, e1, b, ys, rfl, .inr h2, k⟩
/-- a new instance beside all that stood -/
theorem mk_same {H : Hp} (C : Addr) {x dx : Addr} (nx : H x = none) (nd : H dx = none) (ne : dx ≠ x) : Same H (upd (upd H dx (.own x)) x (.ins C dx [])) := (same_new nd _).trans (same_new (by rw [upd_ne ne.symm]; exact nx) _)
end
/-! ### check_stand -/
section
variable {C : Addr}
def spStandOk (K : PySem.W.Frag) (C : Addr) : Sp := fun vs H Q _ => ∃ (p : Addr) (t : Tab) (n : Nat), vs = [.ref p, .int (n : Nat)] ∧ Mach K C H p t ∧ t.length ≤ 6 ∧ n < t.length ∧ Q .non H
theorem ok_check_stand {f : Addr} {fd : FuncData} (F : Fun K "check_stand" "check_stand" s_check_stand f fd) (B : Blt mg) (G_is_below : DefK P w K mg base CX0 1 "is_below" P_is_below (spBelow K)) (l_Machine : LenK P w K mg base 1 C (spMLen K C)) :
    FnOk P w K mg base CX0 3 f fd P_check_stand (spStandOk K C) := by
  refine F.ok sc_check_stand (fun vs H Q E h => ?_) (fun cdv A outer s H vs Q E hr h => ?_)
  · obtain ⟨p, t, n, rfl, _⟩ := h
    rfl
  · obtain ⟨p, t, n, rfl, mm, t6, hn, k⟩ := h
    obtain ⟨dx, v, hp, dv⟩ := id mm
    refine ⟨_, (pss_one (ps_if (pt_not (pt_val (pe_def G_is_below (hr.mono (by omega)) (by rfl) (pa_cons (pv 1) (pa_cons (pe_lenO l_Machine (hr.mono (by omega)) (by rfl) B.n_len (pv 0)) pa_nil))))) (pss_one ps_never) pss_nil)), ?_⟩
    refine ⟨_, rfl, _, rfl, p, dx, _, rfl, hp, p, t, rfl, mm, t.length, rfl, by omega, .int n, "int", _, rfl, .int _, _, rfl, ?_⟩
    have e : below (.int (n : Nat)) ((t.length : Nat) : Int) = true := by
      show (decide ((0 : Int) ≤ (n : Int)) && decide ((n : Int) < ((t.length : Nat) : Int))) = true
      rw [decide_eq_true (by omega), decide_eq_true (by omega)]
      rfl
    rw [e]
    exact k
end
/-! ### check_row -/
section
variable {C : Addr}
def spRowGood (K : PySem.W.Frag) (C : Addr) : Sp := fun vs H Q _ => ∃ (p : Addr) (v : V) (t : Tab) (m : Nat) (r : List Nat), vs = [.ref p, v] ∧ Mach K C H p t ∧ Good t m ∧ Dp K H v (lettersD r) ∧ r.length ≤ 40 ∧ (∀ c ∈ r, c < m) ∧ ∀ H', Same H H' → Q .non H'
theorem ok_check_row {f : Addr} {fd : FuncData} (F : Fun K "check_row" "check_row" s_check_row f fd) (B : Blt mg) {tk : Tok} (g_LONGEST_ROW : mg "LONGEST_ROW" = some (.int 40 tk)) (G_is_below : DefK P w K mg base CX0 1 "is_below" P_is_below (spBelow K))
    (p_letters : PropK P w K mg base 1 C "letters" (spMLet K C)) : FnOk P w K mg base CX0 3 f fd P_check_row (spRowGood K C) := by
  refine F.ok sc_check_row (fun vs H Q E h => ?_) (fun cdv A outer s H vs Q E hr h => ?_)
  · obtain ⟨p, v, t, m, r, rfl, _⟩ := h
    rfl
  · obtain ⟨p, v, t, m, r, rfl, mm, g, dv, r40, hc, k⟩ := h
    refine ⟨_, (pss_cons (ps_if (PW.pt (pw_or (pt_not (pt_val (pe_callB (k_isi K) (by rfl) B.n_isinstance (by decide +kernel) (pa_cons (pv 1) (pa_cons (pe_bltn (v := .ty "tuple") (u := .type "tuple") (by rfl) B.n_tuple (by decide +kernel) rfl) pa_nil))))) (pw_or1 (pt_cmpR op_gt (pe_callB (k_len K) (by rfl) B.n_len boot_len (pa_cons (pv 1) pa_nil)) (pe_gI (by rfl) g_LONGEST_ROW) (nomark _))))) (pss_one ps_never) pss_nil)
 (pss_one (ps_for PassesOwn.never rfl (EnT.pi_enumT (by rfl) B.n_enumerate (pa_cons (pv 1) pa_nil)) (k_tgs (n := 2) K rfl (pgs_cons (pg_name (i := 2) sc_check_row.nd rfl (Or.inl rfl)) (pgs_cons (pg_name (i := 3) sc_check_row.nd rfl (Or.inl rfl)) pgs_nil)))
 (pss_one (ps_if (pt_not (pt_val (pe_def G_is_below (hr.mono (by omega)) (by rfl) (pa_cons (pv 3) (pa_cons (pe_propM p_letters (hr.mono (by omega)) (pv 0)) pa_nil))))) (pss_one ps_never) pss_nil))))), ?_⟩
    have tv := dp_ty dv
    obtain ⟨ra, rxs, rfl, sr, ar⟩ := dp_tup (show Dp K H v (.tuple (r.map fun (c : Nat) => PyData.int (c : Int))) from dv)
    have er : rxs = (r.map fun (c : Nat) => (c : Int)).map V.int := dps_intsV (by rw [List.map_map]; exact ar)
    subst er
    have lr : ((r.map fun (c : Nat) => (c : Int)).map V.int).length = r.length := by rw [List.length_map, List.length_map]
    refine ⟨_, rfl, _, _, _, _, true, rfl, .ty _, tv.ty, kit_any (show kitB "tuple" "tuple" = some true by decide +kernel), _, rfl, _, rfl, ra, _, rfl, .inr sr, _, _, rfl, rfl, _, rfl, ?_⟩
    rw [decide_eq_false (by rw [lr]; omega)]
    refine ⟨_, rfl, ra, _, rfl, sr, EnT.for_enT (K := K) (a := ra) (xs := (r.map fun (c : Nat) => (c : Int)).map V.int) (fun i σ H' => Same H H' ∧ ∃ u1 u2, σ = [some (.ref p), some (.ref ra), u1, u2]) ⟨Same.refl H, none, none, rfl⟩ (fun i σ H' _ z => seqT z.1 sr) ?_ ?_⟩
    · rintro i x T σ H1 hx ⟨s1, u1, u2, rfl⟩ hT
      have s2 := s1.trans (same_new hT (HO.tup [V.int (i : Nat), x]))
      have eT : (upd H1 T (.tup [.int (i : Nat), x])) T = some (.tup [.int (i : Nat), x]) := upd_same
      revert s2 eT
      generalize upd H1 T (.tup [.int (i : Nat), x]) = H2
      intro s2 eT
      rw [List.getElem?_map, List.getElem?_map] at hx
      obtain ⟨c, hci, rfl⟩ : ∃ c : Nat, r[i]? = some c ∧ x = .int (c : Nat) := by
        cases z : r[i]? with
        | none => rw [z] at hx; cases hx
        | some c => rw [z] at hx; exact ⟨c, rfl, (Option.some.inj hx).symm⟩
      have hcm := hc c (List.mem_of_getElem? hci)
      obtain ⟨dx, tv, hp, _⟩ := mm.same s2
      refine ⟨T, _, rfl, SqT.of eT, rfl, _, _, rfl, _, _, rfl, rfl, ?_⟩
      refine ⟨_, rfl, _, rfl, p, dx, _, rfl, hp, p, t, m, rfl, mm.same s2, g, .int c, "int", _, rfl, .int _, _, rfl, ?_⟩
      have e : below (.int (c : Nat)) ((m : Nat) : Int) = true := by
        show (decide ((0 : Int) ≤ (c : Int)) && decide ((c : Int) < ((m : Nat) : Int))) = true
        rw [decide_eq_true (by omega), decide_eq_true (by omega)]
        rfl
      rw [e]
      exact ⟨s2, _, _, rfl⟩
    · rintro σ H1 ⟨s1, u1, u2, rfl⟩
      exact k H1 s1
end
/-! ### walk -/
section
variable {C : Addr}
/-- walk of a good machine, stand and row -/
def spWalk (K : PySem.W.Frag) (C : Addr) : Sp := fun vs H Q _ => ∃ (p : Addr) (v : V) (t : Tab) (m n : Nat) (r : List Nat), vs = [.ref p, .int (n : Nat), v] ∧ Mach K C H p t ∧ Good t m ∧ n < t.length ∧ Dp K H v (lettersD r) ∧ r.length ≤ 40 ∧ (∀ c ∈ r, c < m) ∧
  ∀ (u : V) (H' : Hp), Same H H' → Dp K H' u (walkD (walkF t n r)) → Q u H'
theorem ok_walk {f : Addr} {fd : FuncData} (F : Fun K "walk" "walk" s_walk f fd) (B : Blt mg) (G_check_stand : DefK P w K mg base CX0 3 "check_stand" P_check_stand (spStandOk K C)) (G_check_row : DefK P w K mg base CX0 3 "check_row" P_check_row (spRowGood K C))
    (p_table : PropK P w K mg base 1 C "table" (spMGet K C)) : FnOk P w K mg base CX0 4 f fd P_walk (spWalk K C) := by
  refine F.ok sc_walk (fun vs H Q E h => ?_) (fun cdv A outer s H vs Q E hr h => ?_)
  · obtain ⟨p, v, t, m, n, r, rfl, _⟩ := h
    rfl
  · obtain ⟨p, v, t, m, n, r, rfl, mm, g, hn, dv, r40, hc, k⟩ := h
    refine ⟨_, (pss_cons (ps_expr (pe_def G_check_stand (hr.mono (by omega)) (by rfl) (pa_cons (pv 0) (pa_cons (pv 1) pa_nil))))
 (pss_cons (ps_expr (pe_def G_check_row (hr.mono (by omega)) (by rfl) (pa_cons (pv 0) (pa_cons (pv 2) pa_nil))))
 (pss_cons (ps_set (i := 3) sc_walk.nd rfl (Or.inl rfl) (pv 1))
 (pss_cons (ps_set (i := 4) sc_walk.nd rfl (Or.inl rfl) (pe_lst pa_nil))
 (pss_cons (ps_for PassesOwn.never rfl (k_pit K (pv 2)) (pg_name (i := 5) sc_walk.nd rfl (Or.inl rfl))
 (pss_cons (ps_set (i := 6) sc_walk.nd rfl (Or.inl rfl) (pe_ix (k_ixT K) (pe_ix (k_ixT K) (pe_propM p_table (hr.mono (by omega)) (pv 0)) (pv 3) (fun _ _ => rfl)) (pv 5) (fun _ _ => rfl)))
 (pss_cons (ps_if (pt_cmpR op_isN (pv 6) pe_non (nomark _)) (pss_one (ps_ret pe_non)) pss_nil)
 (pss_cons (ps_set (i := 3) sc_walk.nd rfl (Or.inl rfl) (pe_ix (k_ixT K) (pv 6) pe_int (fun _ _ => rfl)))
 (pss_one (ps_expr (pe_bm PySem.F.plainAttrs_list PySem.F.slot_list_append PySem.F.type_list_append mt_append (pv 4) (pa_cons (pe_ix (k_ixT K) (pv 6) pe_int (fun _ _ => rfl)) pa_nil))))))))
 (pss_one (ps_ret (pe_tup (pa_cons (pv 3) (pa_cons (pe_callTy (k_tupOf K) (by rfl) B.n_tuple (by decide +kernel) (pa_cons (pv 4) pa_nil)) pa_nil)))))))))), ?_⟩
    refine ⟨_, rfl, _, rfl, p, t, n, rfl, mm, g.hi, hn, ?_⟩
    refine ⟨_, rfl, _, rfl, p, v, t, m, r, rfl, mm, g, dv, r40, hc, fun H1 s1 => ?_⟩
    obtain ⟨ra, rxs, rfl, sr, ar⟩ := dp_tup (show Dp K H v (.tuple (r.map fun (c : Nat) => PyData.int (c : Int))) from dv)
    have er : rxs = (r.map fun (c : Nat) => (c : Int)).map V.int := dps_intsV (by rw [List.map_map]; exact ar)
    subst er
    have lr : ((r.map fun (c : Nat) => (c : Int)).map V.int).length = r.length := by rw [List.length_map, List.length_map]
    refine ⟨_, rfl, by show 0 ≤ sizeLine; decide, fun L hL => ?_⟩
    have s2 := s1.trans (same_new hL (HO.lst []))
    refine ⟨_, rfl, ra, rfl, ⟨_, seqT s2 sr⟩, for_tup (K := K) (a := ra) (xs := (r.map fun (c : Nat) => (c : Int)).map V.int) (fun i σ H' => ∃ (q : Nat) (ws : List Nat) (u5 u6 : Option V), Same H H' ∧ walkF t n (r.take i) = some (q, ws) ∧ q < t.length ∧
      σ = [some (.ref p), some (.int (n : Nat)), some (.ref ra), some (.int (q : Nat)), some (.ref L), u5, u6] ∧ H' L = some (.lst ((ws.map fun (c : Nat) => (c : Int)).map V.int)) ∧ ws.length = i)
      ⟨n, [], none, none, s2, rfl, hn, rfl, upd_same, rfl⟩ (fun i σ H' _ ⟨_, _, _, _, e, _⟩ => seqT e sr) ?_ ?_⟩
    · rintro i x σ H' hi ⟨q, ws, u5, u6, e, hw, hq, rfl, hs, lw⟩
      rw [List.getElem?_map, List.getElem?_map] at hi
      obtain ⟨c, hci, rfl⟩ : ∃ c : Nat, r[i]? = some c ∧ x = .int (c : Nat) := by
        cases z : r[i]? with
        | none => rw [z] at hi; cases hi
        | some c => rw [z] at hi; exact ⟨c, rfl, (Option.some.inj hi).symm⟩
      have hcm := hc c (List.mem_of_getElem? hci)
      have il : i < r.length := (List.getElem?_eq_some_iff.mp hci).1
      obtain ⟨dx, tv, hp, dt⟩ := mm.same e
      obtain ⟨a, xs, b, ys, z, rfl, h1, _, e1, h2, _, e2, dz⟩ := tab_at g dt hq hcm
      have more : walkF t n (r.take (i + 1)) = (stepAt t q c).map fun y => (y.1, ws ++ [y.2]) := by
        rw [take_more hci, walk_some t _ _ _ _ _ hw, walk_one]
        cases stepAt t q c with
        | none => rfl
        | some y => rfl
      refine ⟨_, rfl, p, dx, _, rfl, hp, p, dx, _, rfl, hp, _, rfl, a, xs, _, _, rfl, rfl, h1, e1, _, rfl, b, ys, _, z, rfl, rfl, h2, e2, _, rfl, rfl, _, rfl, ?_⟩
      cases es : stepAt t q c with
      | none =>
        rw [es] at dz more
        rw [dp_non dz]
        refine iteT ?_
        have full : walkF t n r = none := by
          have z := walk_none t _ (r.drop (i + 1)) n more
          rw [List.take_append_drop] at z
          exact z
        exact k .non H' e (by rw [full]; exact .non)
      | some y =>
        obtain ⟨q', o⟩ := y
        rw [es] at dz more
        obtain ⟨ya, yxs, rfl, y1, y2, y3, _⟩ := step_at dz
        refine iteF ?_
        have gd := stepAt_good g es
        refine ⟨_, rfl, ya, yxs, _, _, rfl, rfl, y1, y2, _, rfl, .inl ⟨rfl, _, SqL.of hs⟩, _, rfl, ya, yxs, _, _, rfl, rfl, y1, y3, L, _, _, rfl, rfl, hs, ?_, q', ws ++ [o], _, _, ?_, more, gd.1, rfl, ?_, by rw [List.length_append, lw]; rfl⟩
        · rw [List.length_map, List.length_map]
          exact small1000 (by omega)
        · intro b o e'
          have nb : b ≠ L := ne_of_none (s1 _ _ e') hL
          rw [upd_ne nb]
          exact e _ _ e'
        · rw [upd_same, List.map_append, List.map_append]
          rfl
    · rintro σ H' ⟨q, ws, u5, u6, e, hw, hq, rfl, hs, lw⟩
      refine ⟨_, rfl, _, rfl, L, _, rfl, .inl ⟨SqL.of hs, fun T hT => ⟨by show 2 ≤ sizeLine; decide, fun T2 hT2 => ?_⟩⟩⟩
      have s3 := same_new hT (HO.tup ((ws.map fun (c : Nat) => (c : Int)).map V.int))
      have s4 := same_new hT2 (HO.tup [V.int (q : Nat), V.ref T])
      rw [lr, List.take_length] at hw
      refine k _ _ (e.trans (s3.trans s4)) ?_
      rw [hw]
      refine .tup (SqT.of upd_same) (.cons (.int _) (.cons (.tup (seqT s4 (SqT.of upd_same)) ?_) .nil))
      have z := dps_ints (K := K) (H := upd (upd H' T (.tup ((ws.map fun (c : Nat) => (c : Int)).map V.int))) T2 (.tup [.int (q : Nat), .ref T])) (ws.map fun (c : Nat) => (c : Int))
      rw [List.map_map (g := PyData.int)] at z
      exact z
end
/-! ### _law_mix: the source is made -/
def spMix (K : PySem.W.Frag) : Sp := fun vs H Q _ => ∃ (a : Addr) (ns : List Int) (seed : Int), vs = [.ref a, .int seed] ∧ SqL K H a (ns.map V.int) ∧ ns.length ≤ 63 ∧ 0 ≤ seed ∧ seed < 2147483647 ∧
  ∀ (h l : Addr) (H' : Hp), Same H H' → H h = none → H l = none → Src H' h l → Q (.ref h) H'
theorem ok_law_mix {f : Addr} {fd : FuncData} (F : Fun K "_law_mix" "_law_mix" s__law_mix f fd) (B : Blt mg) : FnOk P w K mg base CX0 1 f fd P__law_mix (spMix K) := by
  refine F.ok sc__law_mix (fun vs H Q E h => ?_) (fun cdv A outer s H vs Q E hr h => ?_)
  · obtain ⟨a, ns, seed, rfl, _⟩ := h
    rfl
  · obtain ⟨a, ns, seed, rfl, hS, hlen, s0, s1, k⟩ := h
    refine ⟨_, (pss_cons (ps_set (i := 2) sc__law_mix.nd rfl (Or.inl rfl) (pv 1))
 (pss_cons (ps_for PassesOwn.never rfl (k_pil K (pv 0)) (pg_name (i := 3) sc__law_mix.nd rfl (Or.inl rfl))
 (pss_one (ps_set (i := 2) sc__law_mix.nd rfl (Or.inl rfl) (pe_op op_modN (pe_callTy k_int1 (by rfl) B.n_int (by decide +kernel) (pa_cons (pe_op op_add (pe_op op_add (pe_op op_mul (pv 2) pe_int) (pe_op op_modN (pe_callTy k_int1 (by rfl) B.n_int (by decide +kernel) (pa_cons (pv 3) pa_nil)) pe_int)) pe_int) pa_nil)) pe_int))))
 (pss_one (ps_ret (pe_lst (pa_cons (pv 2) (pa_cons (pe_callTy (k_listOf K) (by rfl) B.n_list (by decide +kernel) (pa_cons (pv 0) pa_nil)) (pa_cons pe_int pa_nil)))))))), ?_⟩
    refine ⟨_, rfl, _, rfl, a, rfl, ⟨_, hS⟩, for_list (K := K) (a := a) (xs := ns.map V.int) (fun i σ H' => H' = H ∧ ∃ (st : Int) (v : Option V), σ = [some (.ref a), some (.int seed), some (.int st), v] ∧ 0 ≤ st ∧ st < 2147483647)
      ⟨rfl, seed, none, rfl, s0, s1⟩ (fun i σ H' _ ⟨e, _⟩ => e ▸ hS) ?_ ?_⟩
    · rintro i x σ H' hi ⟨rfl, st, v, rfl, b0, b1⟩
      obtain ⟨n, rfl⟩ : ∃ n, x = V.int n := by
        rw [List.getElem?_map] at hi
        cases e : ns[i]? with
        | none => rw [e] at hi; cases hi
        | some u => rw [e] at hi; exact ⟨u, (Option.some.inj hi).symm⟩
      walk_at "rd"
      exact ⟨rfl, _, _, rfl, Int.fmod_nonneg_of_pos _ (by decide), Int.fmod_lt_of_pos _ (by decide)⟩
    · rintro σ H' ⟨rfl, st, v, rfl, b0, b1⟩
      walk_at "rd"
      refine ⟨a, _, rfl, .inl hS, fun l hl => ⟨by show 3 ≤ sizeLine; decide, fun h hh => ?_⟩⟩
      have hl' : H' h = none := (same_new hl _).free hh
      have lh : l ≠ h := fun z => by rw [← z, upd_same] at hh; cases hh
      refine k h l _ ((same_new hl _).trans (same_new hh _)) hl' hl ⟨lh.symm, st, 0, ns, upd_same, ?_, hlen, b0, b1⟩
      rw [upd_ne lh, upd_same]
/-! ### _law_next: a draw below a cap -/
def spNext : Sp := fun vs H Q _ => ∃ (h l : Addr) (cap : Int), vs = [.ref h, .int cap] ∧ Src H h l ∧ 0 < cap ∧ cap < 1000000 ∧
  ∀ (n : Nat) (H' : Hp), (n : Int) < cap → Src H' h l → Keep h l H H' → Q (.int n) H'
theorem ok_law_next {f : Addr} {fd : FuncData} (F : Fun K "_law_next" "_law_next" s__law_next f fd) (B : Blt mg) : FnOk P w K mg base CX0 1 f fd P__law_next spNext := by
  refine F.ok sc__law_next (fun vs H Q E h => ?_) (fun cdv A outer s H vs Q E hr h => ?_)
  · obtain ⟨h, l, cap, rfl, _⟩ := h
    rfl
  · obtain ⟨h, l, cap, rfl, S, c0, c1, k⟩ := h
    obtain ⟨ne, st, ix, cells, e1, e2, hlen, b0, b1⟩ := id S
    refine ⟨_, (pss_cons (ps_set (i := 2) sc__law_next.nd rfl (Or.inl rfl) (pe_ix (k_ixL K) (pe_op op_cat (pe_ix (k_ixL K) (pv 0) pe_int (fun _ _ => rfl)) (pe_lst (pa_cons pe_int pa_nil))) (pe_op op_modN (pe_callTy k_int1 (by rfl) B.n_int (by decide +kernel) (pa_cons (pe_ix (k_ixL K) (pv 0) pe_int (fun _ _ => rfl)) pa_nil)) (pe_callB (call_max2 rfl) (by rfl) B.n_max (by decide +kernel) (pa_cons pe_int (pa_cons (pe_callB (k_len K) (by rfl) B.n_len boot_len (pa_cons (pe_ix (k_ixL K) (pv 0) pe_int (fun _ _ => rfl)) pa_nil)) pa_nil)))) (fun _ _ => rfl)))
 (pss_cons (ps_if (pt_cmpR op_ge (pv 2) (pe_op op_pow pe_int pe_int) (nomark _)) (pss_cons (ps_asg (pe_op op_fdivN (pv 2) (pv 1)) (pg_sub (pe_ix (k_ixL K) (pv 0) pe_int (fun _ _ => rfl)) (pe_op op_modN (pe_callTy k_int1 (by rfl) B.n_int (by decide +kernel) (pa_cons (pe_ix (k_ixL K) (pv 0) pe_int (fun _ _ => rfl)) pa_nil)) (pe_callB (k_len K) (by rfl) B.n_len boot_len (pa_cons (pe_ix (k_ixL K) (pv 0) pe_int (fun _ _ => rfl)) pa_nil))) set_list))
 (pss_one (ps_ret (pe_op op_modN (pe_callTy k_int1 (by rfl) B.n_int (by decide +kernel) (pa_cons (pv 2) pa_nil)) (pv 1))))) pss_nil)
 (pss_cons (ps_asg (pe_op op_modN (pe_callTy k_int1 (by rfl) B.n_int (by decide +kernel) (pa_cons (pe_op op_add (pe_op op_add (pe_op op_mul (pe_ix (k_ixL K) (pv 0) pe_int (fun _ _ => rfl)) pe_int) (pe_op op_mul (pv 2) pe_int)) pe_int) pa_nil)) pe_int) (pg_sub (pv 0) pe_int set_list))
 (pss_cons (ps_asg (pe_op op_add (pe_ix (k_ixL K) (pv 0) pe_int (fun _ _ => rfl)) pe_int) (pg_sub (pv 0) pe_int set_list))
 (pss_one (ps_ret (pe_op op_modN (pe_callTy k_int1 (by rfl) B.n_int (by decide +kernel) (pa_cons (pe_op op_fdivN (pe_ix (k_ixL K) (pv 0) pe_int (fun _ _ => rfl)) pe_int) pa_nil)) (pv 1)))))))), ?_⟩
    have l_h : ∀ {H' : Hp}, Same H H' → H' h = some (.lst [.int st, .ref l, .int ix]) ∧ H' l = some (.lst (cells.map V.int)) := fun e => ⟨e _ _ e1, e _ _ e2⟩
    have sl : (cells.map V.int).length = cells.length := List.length_map _
    -- the cell
    refine ⟨_, rfl, h, _, _, _, rfl, rfl, SqL.of e1, rfl, by show 1 ≤ sizeLine; decide, fun q hq => ?_⟩
    have s1 : Same H (upd H q (.lst [.int 0])) := same_new hq _
    obtain ⟨f1, f2⟩ := l_h s1
    refine ⟨l, q, _, _, rfl, rfl, f2, upd_same, Nat.le_trans (by rw [sl]; exact Nat.add_le_add_right hlen 1) (by decide : 64 ≤ sizeLine), fun p hp => ?_⟩
    have s2 : Same H (upd (upd H q (.lst [.int 0])) p (.lst (cells.map V.int ++ [.int 0]))) := s1.trans (same_new hp _)
    have gp : (upd (upd H q (.lst [.int 0])) p (.lst (cells.map V.int ++ [.int 0]))) p = some (.lst (cells.map V.int ++ [.int 0])) := upd_same
    revert s2 gp
    generalize upd (upd H q (.lst [.int 0])) p (.lst (cells.map V.int ++ [.int 0])) = H2
    intro s2 gp
    obtain ⟨g1, g2⟩ := l_h s2
    generalize em : (if (((cells.map V.int).length : Nat) : Int) > 1 then (((cells.map V.int).length : Nat) : Int) else 1) = m
    have m0 : 0 < m := by rw [← em, sl]; split <;> omega
    have m1 : m ≤ (((cells ++ [0]).length : Nat) : Int) := by rw [← em, sl, List.length_append, List.length_singleton]; split <;> omega
    have x0 := Int.fmod_nonneg_of_pos ix m0
    have x1 := Int.fmod_lt_of_pos ix m0
    obtain ⟨c, hc, cm⟩ := atI_int (ns := cells ++ [0]) x0 (Int.lt_of_lt_of_le x1 m1)
    rw [List.map_append] at hc
    refine ⟨_, rfl, h, _, _, _, rfl, rfl, SqL.of g1, rfl, .inl ⟨_, rfl, _, rfl, h, _, _, _, rfl, rfl, SqL.of g1, rfl, l, _, rfl, .inl (SqL.of g2), _, _, rfl, _, _, rfl, rfl, ?_, p, _, _, .int c, rfl, rfl, SqL.of gp, ?_, ?_⟩⟩
    · show (if (((cells.map V.int).length : Nat) : Int) > 1 then (((cells.map V.int).length : Nat) : Int) else 1) ≠ 0
      rw [em]
      omega
    · show atI _ (ix.fmod (if (((cells.map V.int).length : Nat) : Int) > 1 then (((cells.map V.int).length : Nat) : Int) else 1)) = _
      rw [em]
      exact hc
    -- is it great
    refine ⟨_, rfl, _, _, rfl, rfl, ⟨by decide, by decide, by decide⟩, _, _, rfl, rfl, _, rfl, ?_⟩
    have hb : (0 : Int) < (10 : Int) ^ (18 : Int).toNat := by decide
    revert hb
    generalize ((10 : Int) ^ (18 : Int).toNat) = big
    intro hb
    refine ite2 (fun t => ?_) (fun t => ?_)
    · have t' : big ≤ c := of_decide_eq_true t
      have nz : 0 < cells.length := by
        rcases List.mem_append.mp cm with z | z
        · exact List.length_pos_of_mem z
        · rw [List.mem_singleton.mp z] at t'
          omega
      have y0 := Int.fmod_nonneg_of_pos ix (b := (cells.length : Int)) (by omega)
      have y1 := Int.fmod_lt_of_pos ix (b := (cells.length : Int)) (by omega)
      refine ⟨_, rfl, _, rfl, _, _, rfl, rfl, ⟨by omega, by omega⟩, _, rfl, h, _, _, _, rfl, rfl, SqL.of g1, rfl, _, rfl, h, _, _, _, rfl, rfl, SqL.of g1, rfl, .inl ⟨_, rfl, _, rfl, h, _, _, _, rfl, rfl, SqL.of g1, rfl, l, _, rfl, .inl (SqL.of g2), _, _, rfl, rfl, ?_, l, _, _, (ix.fmod (cells.length : Int)).toNat, rfl, rfl, g2, ?_, ?_⟩⟩
      · show (((cells.map V.int).length : Nat) : Int) ≠ 0
        rw [sl]
        omega
      · show ixN (cells.map V.int).length (ix.fmod (((cells.map V.int).length : Nat) : Int)) = _
        rw [sl]
        exact ixN_in y0 y1
      refine ⟨_, rfl, .inl ⟨_, rfl, _, rfl, _, _, rfl, rfl, (fun z => by omega), ?_⟩⟩
      have z0 := Int.fmod_nonneg_of_pos c c0
      have z1 := Int.fmod_lt_of_pos c c0
      have ez : c.fmod cap = (((c.fmod cap).toNat : Nat) : Int) := by omega
      show Q (.int (c.fmod cap)) _
      rw [ez]
      refine k _ _ (by omega) ⟨ne, st, ix, cells.set (ix.fmod (cells.length : Int)).toNat (c.fdiv cap), ?_, ?_, ?_, b0, b1⟩ (fun b o n1 n2 e => ?_)
      · rw [upd_ne ne]
        exact g1
      · rw [upd_same, List.map_set]
      · rw [List.length_set]
        exact hlen
      · rw [upd_ne n2]
        exact s2 _ _ e
    · refine ⟨_, rfl, h, _, _, _, rfl, rfl, SqL.of g1, rfl, _, _, rfl, rfl, .inr ⟨by decide, by decide⟩, _, rfl, _, _, rfl, rfl, .inr ⟨by decide, by decide⟩, _, _, rfl, rfl, _, _, rfl, rfl, .inl ⟨_, rfl, _, _, rfl, rfl, (fun z => by omega), _, rfl, h, _, _, 0, rfl, rfl, g1, rfl, ?_⟩⟩
      refine ⟨_, rfl, h, _, _, _, rfl, rfl, SqL.of upd_same, rfl, _, _, rfl, rfl, _, rfl, h, _, _, 2, rfl, rfl, upd_same, rfl, ?_⟩
      refine ⟨_, rfl, h, _, _, _, rfl, rfl, SqL.of upd_same, rfl, _, _, rfl, rfl, ⟨by decide, by decide⟩, .inl ⟨_, rfl, _, rfl, _, _, rfl, rfl, (fun z => by omega), ?_⟩⟩
      obtain ⟨u, ew⟩ : ∃ u, Int.fdiv (Int.fmod (st * 48271 + c * 69621 + 11) 2147483647) 7 = u := ⟨_, rfl⟩
      have z0 := Int.fmod_nonneg_of_pos u c0
      have z1 := Int.fmod_lt_of_pos u c0
      have ez : u.fmod cap = (((u.fmod cap).toNat : Nat) : Int) := by omega
      have go : Q (.int (u.fmod cap)) (upd (upd H2 h (.lst [.int (Int.fmod (st * 48271 + c * 69621 + 11) 2147483647), .ref l, .int ix])) h (.lst [.int (Int.fmod (st * 48271 + c * 69621 + 11) 2147483647), .ref l, .int (ix + 1)])) := by
        rw [ez]
        refine k _ _ (by omega) ⟨ne, _, _, cells, upd_same, ?_, hlen, Int.fmod_nonneg_of_pos _ (by decide), Int.fmod_lt_of_pos _ (by decide)⟩ (fun b o n1 n2 e => ?_)
        · rw [upd_ne ne.symm, upd_ne ne.symm]
          exact g2
        · rw [upd_ne n1, upd_ne n1]
          exact s2 _ _ e
      rw [← ew] at go
      exact go
/-! ### _law_pick: one of some things -/
def spPick : Sp := fun vs H Q _ => ∃ (h l a : Addr) (xs : List V), vs = [.ref h, .ref a] ∧ Src H h l ∧ H a = some (.lst xs) ∧ a ≠ h ∧ a ≠ l ∧ 0 < xs.length ∧ xs.length < 1000000 ∧
  ∀ (v : V) (H' : Hp), v ∈ xs → Src H' h l → Keep h l H H' → Q v H'
theorem ok_law_pick {f : Addr} {fd : FuncData} (F : Fun K "_law_pick" "_law_pick" s__law_pick f fd) (B : Blt mg) (G__law_next : DefK P w K mg base CX0 1 "_law_next" P__law_next spNext) : FnOk P w K mg base CX0 2 f fd P__law_pick spPick := by
  refine F.ok sc__law_pick (fun vs H Q E h => ?_) (fun cdv A outer s H vs Q E hr h => ?_)
  · obtain ⟨h, l, a, xs, rfl, _⟩ := h
    rfl
  · obtain ⟨h, l, a, xs, rfl, S, ea, n1, n2, p0, p1, k⟩ := h
    refine ⟨_, (pss_one (ps_ret (pe_ix (k_ixL K) (pv 1) (pe_def G__law_next (hr.mono (by omega)) (by rfl) (pa_cons (pv 0) (pa_cons (pe_callB (k_len K) (by rfl) B.n_len boot_len (pa_cons (pv 1) pa_nil)) pa_nil))) (fun _ _ => rfl)))), ?_⟩
    refine ⟨_, rfl, _, rfl, _, rfl, a, _, rfl, .inl (SqL.of ea), h, l, xs.length, rfl, S, by omega, by omega, fun n H' hn S' kp => ?_⟩
    obtain ⟨v, e1, _, e3⟩ := atI_at (xs := xs) (i := (n : Int)) (by omega) hn
    exact ⟨a, xs, _, v, rfl, rfl, SqL.of (kp _ _ n1 n2 ea), e1, k v H' e3 S' kp⟩
/-! ### _law_table: a table is drawn -/
def spTable (K : PySem.W.Frag) : Sp := fun vs H Q _ => ∃ (h l : Addr), vs = [.ref h] ∧ Src H h l ∧
  ∀ (v : V) (t : Tab) (m : Nat) (H' : Hp), Good t m → Dp K H' v (tabD t) → Src H' h l → Keep h l H H' → Q v H'
def GoodRow (M m : Nat) (r : List Stp) : Prop := r.length ≤ m ∧ ∀ n x, some (n, x) ∈ r → n < M ∧ x < 4
theorem ok_law_table {f : Addr} {fd : FuncData} (F : Fun K "_law_table" "_law_table" s__law_table f fd) (B : Blt mg) (G__law_next : DefK P w K mg base CX0 1 "_law_next" P__law_next spNext)
    (G__law_pick : DefK P w K mg base CX0 2 "_law_pick" P__law_pick spPick) : FnOk P w K mg base CX0 3 f fd P__law_table (spTable K) := by
  refine F.ok sc__law_table (fun vs H Q E h => ?_) (fun cdv A outer s H vs Q E hr h => ?_)
  · obtain ⟨h, l, rfl, _⟩ := h
    rfl
  · obtain ⟨h, l, rfl, S, k⟩ := h
    refine ⟨_, (pss_cons (ps_par (i := 1) (j := 2) rfl sc__law_table.nd rfl rfl (by decide) rfl rfl (pa_cons (pe_op op_add pe_int (pe_def G__law_next (hr.mono (by omega)) (by rfl) (pa_cons (pv 0) (pa_cons pe_int pa_nil)))) (pa_cons (pe_op op_add pe_int (pe_def G__law_next (hr.mono (by omega)) (by rfl) (pa_cons (pv 0) (pa_cons pe_int pa_nil)))) pa_nil)) rfl)
 (pss_cons (ps_par3 (i := 3) (j := 4) (l := 5) rfl sc__law_table.nd rfl rfl rfl (by decide) (by decide) (by decide) rfl rfl rfl (pa_cons (pe_def G__law_pick (hr.mono (by omega)) (by rfl) (pa_cons (pv 0) (pa_cons (pe_lst (pa_cons pe_int (pa_cons pe_int (pa_cons pe_int (pa_cons pe_int (pa_cons pe_int pa_nil)))))) pa_nil))) (pa_cons (pe_def G__law_pick (hr.mono (by omega)) (by rfl) (pa_cons (pv 0) (pa_cons (pe_lst (pa_cons pe_int (pa_cons pe_int (pa_cons pe_int (pa_cons pe_int (pa_cons pe_int pa_nil)))))) pa_nil))) (pa_cons (pe_def G__law_next (hr.mono (by omega)) (by rfl) (pa_cons (pv 0) (pa_cons pe_int pa_nil))) pa_nil))) (by rfl))
 (pss_cons (ps_set (i := 6) sc__law_table.nd rfl (Or.inl rfl) (pe_lst pa_nil))
 (pss_cons (ps_for PassesOwn.never rfl (pi_range1 (by rfl) B.n_range (pa_cons (pv 1) pa_nil)) (pg_name (i := 7) sc__law_table.nd rfl (Or.inl rfl))
 (pss_cons (ps_set (i := 8) sc__law_table.nd rfl (Or.inl rfl) (pe_lst pa_nil))
 (pss_cons (ps_for PassesOwn.never rfl (pi_range1 (by rfl) B.n_range (pa_cons (pv 2) pa_nil)) (pg_name (i := 9) sc__law_table.nd rfl (Or.inl rfl))
 (pss_cons (ps_par (i := 10) (j := 11) rfl sc__law_table.nd rfl rfl (by decide) rfl rfl (pa_cons (pe_def G__law_next (hr.mono (by omega)) (by rfl) (pa_cons (pv 0) (pa_cons (pv 1) pa_nil))) (pa_cons (pe_def G__law_next (hr.mono (by omega)) (by rfl) (pa_cons (pv 0) (pa_cons (pv 3) pa_nil))) pa_nil)) rfl)
 (pss_mid (ps_if (pt_cmpR op_eq (pv 5) pe_int (nomark _)) (pss_cons (ps_set (i := 10) sc__law_table.nd rfl (Or.inl rfl) (pe_op op_modN (pe_callTy k_int1 (by rfl) B.n_int (by decide +kernel) (pa_cons (pe_op op_add (pv 7) (pv 9)) pa_nil)) (pv 1)))
 (pss_one (ps_set (i := 11) sc__law_table.nd rfl (Or.inl rfl) (pe_ifExp (pt_cmpR op_eq (pv 9) pe_int (nomark _)) (pe_ifExp (pt_cmpR op_eq (pv 7) pe_int (nomark _)) pe_int pe_int) pe_int)))) pss_nil)
 (pss_mid (ps_if (PW.pt (pw_and (pt_cmpR op_eq (pv 5) pe_int (nomark _)) (pw_and1 (pt_cmpR op_eq (pv 9) pe_int (nomark _))))) (pss_one (ps_set (i := 10) sc__law_table.nd rfl (Or.inl rfl) (pe_op op_modN (pe_callTy k_int1 (by rfl) B.n_int (by decide +kernel) (pa_cons (pe_op op_add (pv 7) pe_int) pa_nil)) (pv 1)))) pss_nil)
 (pss_one (ps_expr (pe_bm PySem.F.plainAttrs_list PySem.F.slot_list_append PySem.F.type_list_append mt_append (pv 8) (pa_cons (pe_ifExp (pt_cmpR op_lt (pe_def G__law_next (hr.mono (by omega)) (by rfl) (pa_cons (pv 0) (pa_cons pe_int pa_nil))) (pv 4) (nomark _)) pe_non (pe_tup (pa_cons (pv 10) (pa_cons (pv 11) pa_nil)))) pa_nil))))))))
 (pss_one (ps_expr (pe_bm PySem.F.plainAttrs_list PySem.F.slot_list_append PySem.F.type_list_append mt_append (pv 6) (pa_cons (pe_callTy (k_tupOf K) (by rfl) B.n_tuple (by decide +kernel) (pa_cons (pv 8) pa_nil)) pa_nil)))))))
 (pss_one (ps_ret (pe_callTy (k_tupOf K) (by rfl) B.n_tuple (by decide +kernel) (pa_cons (pv 6) pa_nil)))))))), ?_⟩
    refine ⟨_, rfl, h, l, 6, rfl, S, by decide, by decide, fun n1 H1 b1 S1 k1 => ⟨_, _, rfl, rfl, _, rfl, h, l, 2, rfl, S1, by decide, by decide, fun n2 H2 b2 S2 k2 => ⟨_, _, rfl, rfl, _, _, rfl, ?_⟩⟩⟩
    refine ⟨_, rfl, by show 5 ≤ sizeLine; decide, fun p hp => ⟨h, l, p, _, rfl, S2.same (same_new hp _), upd_same, (S2.neN hp).1, (S2.neN hp).2, by show 0 < 5; decide, by show 5 < 1000000; decide, fun v3 H3 m3 S3 k3 => ?_⟩⟩
    refine ⟨_, rfl, by show 5 ≤ sizeLine; decide, fun p' hp' => ⟨h, l, p', _, rfl, S3.same (same_new hp' _), upd_same, (S3.neN hp').1, (S3.neN hp').2, by show 0 < 5; decide, by show 5 < 1000000; decide, fun v4 H4 m4 S4 k4 => ?_⟩⟩
    refine ⟨_, rfl, h, l, 3, rfl, S4, by decide, by decide, fun n5 H5 b5 S5 k5 => ⟨_, _, _, rfl, ?_⟩⟩
    obtain ⟨cap, rfl, c0, c1⟩ : ∃ cap : Int, v3 = .int cap ∧ 0 < cap ∧ cap ≤ 4 := by
      have z : v3 = .int 1 ∨ v3 = .int 2 ∨ v3 = .int 4 := by simpa using m3
      rcases z with rfl | rfl | rfl
      · exact ⟨1, rfl, by decide, by decide⟩
      · exact ⟨2, rfl, by decide, by decide⟩
      · exact ⟨4, rfl, by decide, by decide⟩
    obtain ⟨lk, rfl⟩ : ∃ lk : Int, v4 = .int lk := by
      have z : v4 = .int 0 ∨ v4 = .int 1 ∨ v4 = .int 3 := by simpa using m4
      rcases z with rfl | rfl | rfl <;> exact ⟨_, rfl⟩
    have kk : Keep h l H H5 := k1.trans (k2.trans ((Keep.of (same_new hp _)).trans (k3.trans ((Keep.of (same_new hp' _)).trans (k4.trans k5)))))
    clear k1 k2 k3 k4 k5 S S1 S2 S3 S4 hp hp' m3 m4
    refine ⟨by show 0 ≤ sizeLine; decide, fun R hR => ?_⟩
    have nR := S5.neN hR
    have kR : Keep h l H (upd H5 R (.lst [])) := kk.trans (.of (same_new hR _))
    refine ⟨_, rfl, _, rfl, by omega, by omega, for_range (lo := 0) (n := (1 + (n1 : Int)).toNat) (fun i σ H' => ∃ (vs : List V) (t : Tab) (u7 u8 u9 u10 u11 : Option V),
      σ = [some (.ref h), some (.int (1 + (n1 : Int))), some (.int (2 + (n2 : Int))), some (.int cap), some (.int lk), some (.int (n5 : Int)), some (.ref R), u7, u8, u9, u10, u11] ∧ Src H' h l ∧ Keep h l H H' ∧
      H' R = some (.lst vs) ∧ DpAll K H' vs (t.map rowD) ∧ t.length = i ∧ ∀ r ∈ t, r.length = 2 + n2 ∧ ∀ n x, some (n, x) ∈ r → n < 1 + n1 ∧ x < 4)
      ⟨[], [], none, none, none, none, none, rfl, S5.same (same_new hR _), kR, upd_same, .nil, rfl, fun _ z => nomatch z⟩ ?_ ?_⟩
    · rintro i σ H6 hi ⟨vs, t, u7, u8, u9, u10, u11, rfl, S6, k6, eR, dR, tl, tg⟩
      refine ⟨by show 0 ≤ sizeLine; decide, fun p hp => ?_⟩
      have np := S6.neN hp
      have Rp : R ≠ p := ne_of_none eR hp
      refine ⟨_, rfl, _, rfl, by omega, by omega, for_range (lo := 0) (n := (2 + (n2 : Int)).toNat) (fun j σ H' => ∃ (rs : List V) (r : List Stp) (u9 u10 u11 : Option V),
        σ = [some (.ref h), some (.int (1 + (n1 : Int))), some (.int (2 + (n2 : Int))), some (.int cap), some (.int lk), some (.int (n5 : Int)), some (.ref R), some (.int (0 + (i : Int))), some (.ref p), u9, u10, u11] ∧ Src H' h l ∧ Keep h l H H' ∧
        H' R = some (.lst vs) ∧ DpAll K H' vs (t.map rowD) ∧ H' p = some (.lst rs) ∧ DpAll K H' rs (r.map stepD) ∧ r.length = j ∧ ∀ n x, some (n, x) ∈ r → n < 1 + n1 ∧ x < 4)
        ⟨[], [], u9, u10, u11, rfl, S6.same (same_new hp _), k6.trans (.of (same_new hp _)), by rw [upd_ne Rp]; exact eR, dps_same (same_new hp _) dR, upd_same, .nil, rfl, fun _ _ z => nomatch z⟩ ?_ ?_⟩
      · rintro j σ H7 hj ⟨rs, r, w9, w10, w11, rfl, S7, k7, eR7, dR7, ep, dr, rl, rg⟩
        refine ⟨_, rfl, _, rfl, h, l, _, rfl, S7, by omega, by omega, fun g H8 bg S8 k8 => ⟨_, rfl, _, rfl, h, l, cap, rfl, S8, c0, by omega, fun q H9 bq S9 k9 => ⟨_, _, rfl, ?_⟩⟩⟩
        have k79 := k8.trans k9
        refine ⟨fun σ H' => H' = H9 ∧ ∃ g q : Int, σ = [some (.ref h), some (.int (1 + (n1 : Int))), some (.int (2 + (n2 : Int))), some (.int cap), some (.int lk), some (.int (n5 : Int)), some (.ref R), some (.int (0 + (i : Int))), some (.ref p), some (.int (0 + (j : Int))), some (.int g), some (.int q)] ∧ 0 ≤ g ∧ g < 1 + (n1 : Int) ∧ 0 ≤ q ∧ q < 4, ?_, ?_⟩
        · refine ⟨_, rfl, rfl, _, rfl, ?_⟩
          refine ite2 (fun _ => ?_) (fun _ => ?_)
          · have f0 := Int.fmod_nonneg_of_pos (0 + (i : Int) + (0 + (j : Int))) (b := 1 + (n1 : Int)) (by omega)
            have f1 := Int.fmod_lt_of_pos (0 + (i : Int) + (0 + (j : Int))) (b := 1 + (n1 : Int)) (by omega)
            refine ⟨_, rfl, _, rfl, _, _, rfl, rfl, .inl ⟨_, rfl, _, rfl, _, _, rfl, rfl, (fun z => by omega), _, rfl, rfl, _, rfl, ?_⟩⟩
            refine ite2 (fun _ => ?_) (fun _ => ⟨rfl, _, _, rfl, f0, f1, by decide, by decide⟩)
            refine ⟨_, rfl, rfl, _, rfl, ?_⟩
            exact ite2 (fun _ => ⟨rfl, _, _, rfl, f0, f1, by decide, by decide⟩) (fun _ => ⟨rfl, _, _, rfl, f0, f1, by decide, by decide⟩)
          · exact ⟨rfl, (g : Int), (q : Int), rfl, by omega, by omega, by omega, by omega⟩
        · rintro σ H' ⟨rfl, g, q, rfl, g0, g1, q0, q1⟩
          refine ⟨fun σ H'' => H'' = H' ∧ ∃ g q : Int, σ = [some (.ref h), some (.int (1 + (n1 : Int))), some (.int (2 + (n2 : Int))), some (.int cap), some (.int lk), some (.int (n5 : Int)), some (.ref R), some (.int (0 + (i : Int))), some (.ref p), some (.int (0 + (j : Int))), some (.int g), some (.int q)] ∧ 0 ≤ g ∧ g < 1 + (n1 : Int) ∧ 0 ≤ q ∧ q < 4, ?_, ?_⟩
          · refine ⟨_, rfl, rfl, _, rfl, ?_⟩
            refine ite2 (fun _ => ⟨_, rfl, rfl, _, rfl, ?_⟩) (fun _ => iteF ⟨rfl, g, q, rfl, g0, g1, q0, q1⟩)
            refine ite2 (fun _ => ?_) (fun _ => ⟨rfl, g, q, rfl, g0, g1, q0, q1⟩)
            refine ⟨_, rfl, _, _, rfl, rfl, .inl ⟨_, rfl, _, rfl, _, _, rfl, rfl, (fun z => by omega), rfl, _, q, rfl, Int.fmod_nonneg_of_pos _ (by omega), Int.fmod_lt_of_pos _ (by omega), q0, q1⟩⟩
          · rintro σ H'' ⟨rfl, g, q, rfl, g0, g1, q0, q1⟩
            have ep9 := k79 _ _ np.1 np.2 ep
            have eR9 := k79 _ _ nR.1 nR.2 eR7
            refine ⟨_, rfl, .inl ⟨rfl, _, SqL.of ep9⟩, _, rfl, h, l, 12, rfl, S9, by decide, by decide, fun d HA bd SA kA => ⟨_, rfl, _, _, rfl, rfl, _, rfl, ?_⟩⟩
            have epA := kA _ _ np.1 np.2 ep9
            have eRA := kA _ _ nR.1 nR.2 eR9
            have kHA : Keep h l H HA := k7.trans (k79.trans kA)
            have hp0 : H p = none := k6.free np.1 np.2 hp
            have dRA : DpAll K HA vs (t.map rowD) := S7.keepDs (k79.trans kA) dR7 (noLs_map noL_row t)
            have drA : DpAll K HA rs (r.map stepD) := S7.keepDs (k79.trans kA) dr (noLs_map noL_step r)
            have lrs : rs.length = r.length := by rw [dps_len dr, List.length_map]
            refine ite2 (fun _ => ?_) (fun _ => ?_)
            · refine ⟨p, _, _, rfl, rfl, epA, small1000 (by omega), rs ++ [.non], r ++ [none], _, _, _, rfl, SA.upd np.1 np.2, kHA.upd hp0, ?_, ?_, upd_same, ?_, ?_, ?_⟩
              · rw [upd_ne Rp]; exact eRA
              · exact dps_upd epA dRA (noLs_map noL_row t)
              · rw [List.map_append]
                exact dps_snoc (dps_upd epA drA (noLs_map noL_step r)) .non
              · rw [List.length_append, List.length_singleton, rl]
              · intro n x hm
                rcases List.mem_append.mp hm with hm | hm
                · exact rg n x hm
                · simp at hm
            · refine ⟨_, rfl, _, rfl, by show 2 ≤ sizeLine; decide, fun T hT => ?_⟩
              have sT := same_new hT (HO.tup [V.int g, V.int q])
              have pT : p ≠ T := ne_of_none epA hT
              have epT : (upd HA T (.tup [.int g, .int q])) p = some (.lst rs) := by rw [upd_ne pT]; exact epA
              refine ⟨p, _, _, rfl, rfl, epT, small1000 (by omega), rs ++ [.ref T], r ++ [some (g.toNat, q.toNat)], _, _, _, rfl, (SA.same sT).upd np.1 np.2, (kHA.trans (.of sT)).upd hp0, ?_, ?_, upd_same, ?_, ?_, ?_⟩
              · rw [upd_ne Rp]; exact sT _ _ eRA
              · exact dps_upd epT (dps_same sT dRA) (noLs_map noL_row t)
              · rw [List.map_append]
                refine dps_snoc (dps_upd epT (dps_same sT drA) (noLs_map noL_step r)) ?_
                have z : SqT K (upd (upd HA T (.tup [.int g, .int q])) p (.lst (rs ++ [.ref T]))) T [.int g, .int q] := SqT.of (by rw [upd_ne pT.symm, upd_same])
                show Dp K _ _ (.tuple [.int ((g.toNat : Nat) : Int), .int ((q.toNat : Nat) : Int)])
                rw [Int.toNat_of_nonneg g0, Int.toNat_of_nonneg q0]
                exact .tup z (.cons (.int _) (.cons (.int _) .nil))
              · rw [List.length_append, List.length_singleton, rl]
              · intro n x hm
                rcases List.mem_append.mp hm with hm | hm
                · exact rg n x hm
                · simp at hm
                  omega
      · rintro σ H7 ⟨rs, r, w9, w10, w11, rfl, S7, k7, eR7, dR7, ep, dr, rl, rg⟩
        refine ⟨_, rfl, .inl ⟨rfl, _, SqL.of eR7⟩, _, rfl, p, _, rfl, .inl ⟨SqL.of ep, fun T hT => ?_⟩⟩
        have sT := same_new hT (HO.tup rs)
        have RT : R ≠ T := ne_of_none eR7 hT
        have eRT : (upd H7 T (.tup rs)) R = some (.lst vs) := by rw [upd_ne RT]; exact eR7
        have lvs : vs.length = t.length := by rw [dps_len dR7, List.length_map]
        have hR0 : H R = none := kk.free nR.1 nR.2 hR
        refine ⟨R, _, _, rfl, rfl, eRT, small1000 (by omega), vs ++ [.ref T], t ++ [r], _, _, _, _, _, rfl, (S7.same sT).upd nR.1 nR.2, (k7.trans (.of sT)).upd hR0, upd_same, ?_, ?_, ?_⟩
        · rw [List.map_append]
          refine dps_snoc (dps_upd eRT (dps_same sT dR7) (noLs_map noL_row t)) ?_
          exact .tup (SqT.of (by rw [upd_ne RT.symm, upd_same])) (dps_upd eRT (dps_same sT dr) (noLs_map noL_step r))
        · rw [List.length_append, List.length_singleton, tl]
        · intro r' hm
          rcases List.mem_append.mp hm with hm | hm
          · exact tg r' hm
          · rw [List.mem_singleton.mp hm]
            exact ⟨by omega, rg⟩
    · rintro σ H6 ⟨vs, t, u7, u8, u9, u10, u11, rfl, S6, k6, eR, dR, tl, tg⟩
      refine ⟨_, rfl, R, _, rfl, .inl ⟨SqL.of eR, fun T hT => ?_⟩⟩
      have sT := same_new hT (HO.tup vs)
      have tl' : t.length = 1 + n1 := by omega
      exact k (.ref T) t (2 + n2) _ ⟨by omega, by omega, by omega, fun r hm => (tg r hm).1, fun r hm n x hx => by rw [tl']; exact (tg r hm).2 n x hx⟩ (.tup (SqT.of upd_same) (dps_same sT dR)) (S6.same sT) (k6.trans (.of sT))
/-! ### _law_row: a row is drawn -/
def spLRow (K : PySem.W.Frag) : Sp := fun vs H Q _ => ∃ (h l : Addr) (vt : V) (t : Tab) (m n : Nat), vs = [.ref h, vt, .int (n : Nat)] ∧ Src H h l ∧ Good t m ∧ Dp K H vt (tabD t) ∧ n ≤ 1000 ∧
  ∀ (v : V) (r : List Nat) (H' : Hp), Dp K H' v (lettersD r) → r.length = n → (∀ c ∈ r, c < m) → Src H' h l → Keep h l H H' → Q v H'
theorem ok_law_row {f : Addr} {fd : FuncData} (F : Fun K "_law_row" "_law_row" s__law_row f fd) (B : Blt mg) (G__law_next : DefK P w K mg base CX0 1 "_law_next" P__law_next spNext) : FnOk P w K mg base CX0 2 f fd P__law_row (spLRow K) := by
  refine F.ok sc__law_row (fun vs H Q E h => ?_) (fun cdv A outer s H vs Q E hr h => ?_)
  · obtain ⟨h, l, vt, t, m, n, rfl, _⟩ := h
    rfl
  · obtain ⟨h, l, vt, t, m, n, rfl, S, g, dt, hn, k⟩ := h
    refine ⟨_, (pss_one (ps_ret (pe_callTy (k_tupOf K) (by rfl) B.n_tuple (by decide +kernel) (pa_cons (pe_lc (own := ([("_law_k", 3)] : List (Str × Nat))) (g := gName 3) (tt := tYes) rfl sc__law_row.nd (pi_range1 (by rfl) B.n_range (pa_cons (pv 2) pa_nil)) (blkOk_by (own := ([("_law_k", 3)] : List (Str × Nat))) (N := N__law_row) (sc := defScope s__law_row) (by decide +kernel)) (fun _ _ _ _ _ => by exact (pg_name (i := 3) sc__law_row.nd rfl (Or.inl rfl))) (fun _ _ _ _ _ => by exact pts_nil) (fun _ _ _ _ _ => by exact (pe_def G__law_next (hr.mono (by omega)) (by rfl) (pa_cons (pv 0) (pa_cons (pe_callB (k_len K) (by rfl) B.n_len boot_len (pa_cons (pe_ix (k_ixT K) (pv 1) pe_int (fun _ _ => rfl)) pa_nil)) pa_nil))))) pa_nil)))), ?_⟩
    obtain ⟨a, xs, b, ys, z, rfl, h1, lx, e1, h2, ly, _⟩ := tab_at (n := 0) (c := 0) g dt g.lo (by rcases g.lets with e | e <;> omega)
    have m0 : 0 < m := by rcases g.lets with e | e <;> omega
    have m3 : m ≤ 3 := by rcases g.lets with e | e <;> omega
    refine ⟨_, rfl, _, rfl, by omega, by omega, fun D hD => lc_range (lo := 0) (n := ((n : Nat) : Int).toNat) (fun i H' => ∃ (r : List Nat), Src H' h l ∧ Keep h l H H' ∧ H' D = some (.lst ((r.map fun (c : Nat) => (c : Int)).map V.int)) ∧ r.length = i ∧ ∀ c ∈ r, c < m) ⟨[], S.same (same_new hD _), .of (same_new hD _), upd_same, rfl, fun _ z => nomatch z⟩ ?_ ?_⟩
    · rintro i H1 hi ⟨r, S1, k1, eD, lr, cr⟩
      have nD := S.neN hD
      refine ⟨rfl, ?_⟩
      refine ⟨_, rfl, _, rfl, a, xs, _, _, rfl, rfl, S.keepT k1 h1, e1, b, ys, rfl, .inr (S.keepT k1 h2), h, l, (ys.length : Int), rfl, S1, by omega, by omega, fun c H2 hc S2 k2 => ?_⟩
      refine ⟨_, k2 _ _ nD.1 nD.2 eD, small1000 (by rw [List.length_map, List.length_map]; omega), r ++ [c], S2.upd nD.1 nD.2, (k1.trans k2).upd hD, ?_, by rw [List.length_append, lr]; rfl, fun x hx => ?_⟩
      · rw [upd_same, List.map_append, List.map_append]
        rfl
      · rcases List.mem_append.mp hx with hx | hx
        · exact cr x hx
        · rw [List.mem_singleton.mp hx]
          omega
    · rintro H1 ⟨r, S1, k1, eD, lr, cr⟩
      refine ⟨D, _, rfl, .inl ⟨SqL.of eD, fun T hT => ?_⟩⟩
      refine k _ r _ (.tup (SqT.of upd_same) ?_) (by omega) cr (S1.same (same_new hT _)) (k1.trans (.of (same_new hT _)))
      have z := dps_ints (K := K) (H := upd H1 T (.tup ((r.map fun (c : Nat) => (c : Int)).map V.int))) (r.map fun (c : Nat) => (c : Int))
      rw [List.map_map (g := PyData.int)] at z
      exact z
/-! ### _law_walk: where a row leads, by the law -/
def spLWalk (K : PySem.W.Frag) : Sp := fun vs H Q _ => ∃ (vt vr : V) (t : Tab) (m n : Nat) (r : List Nat), vs = [vt, .int (n : Nat), vr] ∧ Good t m ∧ Dp K H vt (tabD t) ∧ n < t.length ∧ Dp K H vr (lettersD r) ∧ (∀ c ∈ r, c < m) ∧ r.length ≤ 10000 ∧
  ∀ (v : V) (H' : Hp), Same H H' → Dp K H' v (walkD (walkF t n r)) → Q v H'
theorem ok_law_walk {f : Addr} {fd : FuncData} (F : Fun K "_law_walk" "_law_walk" s__law_walk f fd) (B : Blt mg) : FnOk P w K mg base CX0 1 f fd P__law_walk (spLWalk K) := by
  refine F.ok sc__law_walk (fun vs H Q E h => ?_) (fun cdv A outer s H vs Q E hr h => ?_)
  · obtain ⟨vt, vr, t, m, n, r, rfl, _⟩ := h
    rfl
  · obtain ⟨vt, vr, t, m, n, r, rfl, g, dt, hn, dr, hc, hl, k⟩ := h
    refine ⟨_, (pss_cons (ps_par (i := 3) (j := 4) rfl sc__law_walk.nd rfl rfl (by decide) rfl rfl (pa_cons (pv 1) (pa_cons (pe_tup pa_nil) pa_nil)) rfl)
 (pss_cons (ps_for PassesOwn.never rfl (k_pit K (pv 2)) (pg_name (i := 5) sc__law_walk.nd rfl (Or.inl rfl))
 (pss_cons (ps_set (i := 6) sc__law_walk.nd rfl (Or.inl rfl) (pe_ix (k_ixT K) (pe_ix (k_ixT K) (pv 0) (pv 3) (fun _ _ => rfl)) (pv 5) (fun _ _ => rfl)))
 (pss_cons (ps_if (pt_cmpR op_isN (pv 6) pe_non (nomark _)) (pss_one (ps_ret pe_non)) pss_nil)
 (pss_one (ps_par (i := 3) (j := 4) rfl sc__law_walk.nd rfl rfl (by decide) rfl rfl (pa_cons (pe_ix (k_ixT K) (pv 6) pe_int (fun _ _ => rfl)) (pa_cons (pe_op (k_catT K) (pv 4) (pe_tup (pa_cons (pe_ix (k_ixT K) (pv 6) pe_int (fun _ _ => rfl)) pa_nil))) pa_nil)) rfl)))))
 (pss_one (ps_ret (pe_tup (pa_cons (pv 3) (pa_cons (pv 4) pa_nil))))))), ?_⟩
    obtain ⟨ra, rxs, rfl, sr, ar⟩ := dp_tup (show Dp K H vr (.tuple (r.map fun (c : Nat) => PyData.int (c : Int))) from dr)
    have er : rxs = (r.map fun (c : Nat) => (c : Int)).map V.int := dps_intsV (by rw [List.map_map]; exact ar)
    subst er
    have lr : ((r.map fun (c : Nat) => (c : Int)).map V.int).length = r.length := by rw [List.length_map, List.length_map]
    refine ⟨_, rfl, by show 0 ≤ sizeLine; decide, fun p hp => ⟨_, _, rfl, ?_⟩⟩
    have s1 := same_new hp (HO.tup [])
    refine ⟨_, rfl, ra, rfl, ⟨_, seqT s1 sr⟩, for_tup (K := K) (a := ra) (xs := (r.map fun (c : Nat) => (c : Int)).map V.int) (fun i σ H' => ∃ (q : Nat) (ws : List Nat) (sa : Addr) (u5 u6 : Option V), Same H H' ∧ walkF t n (r.take i) = some (q, ws) ∧ q < t.length ∧
      σ = [some vt, some (.int (n : Nat)), some (.ref ra), some (.int (q : Nat)), some (.ref sa), u5, u6] ∧ SqT K H' sa ((ws.map fun (c : Nat) => (c : Int)).map V.int) ∧ ws.length = i)
      ⟨n, [], p, none, none, s1, rfl, hn, rfl, SqT.of upd_same, rfl⟩ (fun i σ H' _ ⟨_, _, _, _, _, e, _⟩ => seqT e sr) ?_ ?_⟩
    · rintro i x σ H' hi ⟨q, ws, sa, u5, u6, e, hw, hq, rfl, hs, lw⟩
      rw [List.getElem?_map, List.getElem?_map] at hi
      obtain ⟨c, hci, rfl⟩ : ∃ c : Nat, r[i]? = some c ∧ x = .int (c : Nat) := by
        cases z : r[i]? with
        | none => rw [z] at hi; cases hi
        | some c => rw [z] at hi; exact ⟨c, rfl, (Option.some.inj hi).symm⟩
      have hcm := hc c (List.mem_of_getElem? hci)
      obtain ⟨a, xs, b, ys, z, rfl, h1, _, e1, h2, _, e2, dz⟩ := tab_at g (dp_same e dt) hq hcm
      have il : i < r.length := (List.getElem?_eq_some_iff.mp hci).1
      have more : walkF t n (r.take (i + 1)) = (stepAt t q c).map fun y => (y.1, ws ++ [y.2]) := by
        rw [take_more hci, walk_some t _ _ _ _ _ hw, walk_one]
        cases stepAt t q c with
        | none => rfl
        | some y => rfl
      refine ⟨_, rfl, _, rfl, a, xs, _, _, rfl, rfl, h1, e1, _, rfl, b, ys, _, z, rfl, rfl, h2, e2, _, rfl, rfl, _, rfl, ?_⟩
      cases es : stepAt t q c with
      | none =>
        rw [es] at dz more
        rw [dp_non dz]
        refine iteT ?_
        have full : walkF t n r = none := by
          have z := walk_none t _ (r.drop (i + 1)) n more
          rw [List.take_append_drop] at z
          exact z
        exact k .non H' e (by rw [full]; exact .non)
      | some y =>
        obtain ⟨q', o⟩ := y
        rw [es] at dz more
        obtain ⟨ya, yxs, rfl, y1, y2, y3, _⟩ := step_at dz
        refine iteF ?_
        have gd := stepAt_good g es
        refine ⟨_, rfl, ya, yxs, _, _, rfl, rfl, y1, y2, _, rfl, _, rfl, ya, yxs, _, _, rfl, rfl, y1, y3, by show 1 ≤ sizeLine; decide, fun T hT => ?_⟩
        refine catA_ok (seqT (same_new hT _) hs) (SqT.of upd_same) (by rw [List.length_map, List.length_map]; exact Nat.le_of_lt (by rw [sizeLine_eq]; show ws.length + 1 < _; omega)) (fun na H2 s2 hs2 => ?_)
        refine ⟨_, _, rfl, q', ws ++ [o], na, _, _, e.trans ((same_new hT _).trans s2), more, gd.1, rfl, ?_, by rw [List.length_append, lw]; rfl⟩
        rw [List.map_append, List.map_append]
        exact hs2
    · rintro σ H' ⟨q, ws, sa, u5, u6, e, hw, hq, rfl, hs, lw⟩
      refine ⟨_, rfl, _, rfl, by show 2 ≤ sizeLine; decide, fun T hT => ?_⟩
      rw [lr, List.take_length] at hw
      refine k _ _ (e.trans (same_new hT _)) ?_
      rw [hw]
      refine .tup (SqT.of upd_same) (.cons (.int _) (.cons (.tup (seqT (same_new hT _) hs) ?_) .nil))
      have z := dps_ints (K := K) (H := upd H' T (.tup [.int (q : Nat), .ref sa])) (ws.map fun (c : Nat) => (c : Int))
      rw [List.map_map] at z
      rw [List.map_map] at z
      rw [List.map_map]
      exact z
/-! ### _law_alike: equal data are alike -/
/-- with n calls -/
def spAlike (K : PySem.W.Frag) : Nat → Sp
  | 0 => fun _ _ _ _ => False
  | n + 1 => fun vs H Q _ => ∃ (u v : V) (d : PyData), vs = [u, v] ∧ Dp K H u d ∧ Dp K H v d ∧ okD n d = true ∧ ∀ H', Same H H' → Q (.bl true) H'
theorem ok_law_alike {f : Addr} {fd : FuncData} (F : Fun K "_law_alike" "_law_alike" s__law_alike f fd) (B : Blt mg) (hm : mg "_law_alike" = some (.ref f)) (hb : Binds K fd P__law_alike []) : ∀ n : Nat, FnOk P w K mg base CX0 n f fd P__law_alike (spAlike K n)
  | 0 => ⟨fun _ _ _ _ h => h.elim, fun _ _ _ _ _ _ _ _ _ _ _ _ _ h => h.elim⟩
  | n + 1 => by
    have G__law_alike : DefK P w K mg base CX0 n "_law_alike" P__law_alike (spAlike K n) := ⟨f, fd, ok_law_alike F B hm hb n, hm, F.kp, hb⟩
    refine F.ok sc__law_alike (fun vs H Q E h => ?_) (fun cdv A outer s H vs Q E hr h => ?_)
    · obtain ⟨u, v, d, rfl, _⟩ := h
      rfl
    · obtain ⟨u, v, d, rfl, du, dv, ok, k⟩ := h
      refine ⟨_, (pss_cons (ps_if (pt_val (pe_callB (k_isiT K) (by rfl) B.n_isinstance (by decide +kernel) (pa_cons (pv 1) (pa_cons (pe_tup (pa_cons (pe_bltn (v := .ty "tuple") (u := .type "tuple") (by rfl) B.n_tuple (by decide +kernel) rfl) (pa_cons (pe_bltn (v := .ty "list") (u := .type "list") (by rfl) B.n_list (by decide +kernel) rfl) pa_nil))) pa_nil)))) (pss_cons (ps_if (PW.pt (pw_or (pt_not (pt_val (pe_callB (k_isiT K) (by rfl) B.n_isinstance (by decide +kernel) (pa_cons (pv 0) (pa_cons (pe_tup (pa_cons (pe_bltn (v := .ty "tuple") (u := .type "tuple") (by rfl) B.n_tuple (by decide +kernel) rfl) (pa_cons (pe_bltn (v := .ty "list") (u := .type "list") (by rfl) B.n_list (by decide +kernel) rfl) pa_nil))) pa_nil))))) (pw_or1 (pt_cmpR op_ne (pe_callB (k_isi K) (by rfl) B.n_isinstance (by decide +kernel) (pa_cons (pv 0) (pa_cons (pe_bltn (v := .ty "list") (u := .type "list") (by rfl) B.n_list (by decide +kernel) rfl) pa_nil))) (pe_callB (k_isi K) (by rfl) B.n_isinstance (by decide +kernel) (pa_cons (pv 1) (pa_cons (pe_bltn (v := .ty "list") (u := .type "list") (by rfl) B.n_list (by decide +kernel) rfl) pa_nil))) (nomark _))))) (pss_one (ps_ret pe_bl)) pss_nil)
 (pss_cons (ps_if (pt_cmpR op_ne (pe_callB (k_len K) (by rfl) B.n_len boot_len (pa_cons (pv 0) pa_nil)) (pe_callB (k_len K) (by rfl) B.n_len boot_len (pa_cons (pv 1) pa_nil)) (nomark _)) (pss_one (ps_ret pe_bl)) pss_nil)
 (pss_one (ps_ret (pe_cmpR (k_eqD K hr.units) (pe_lc (own := ([("_law_k", 2)] : List (Str × Nat))) (g := gName 2) rfl sc__law_alike.nd (pi_range1 (by rfl) B.n_range (pa_cons (pe_callB (k_len K) (by rfl) B.n_len boot_len (pa_cons (pv 1) pa_nil)) pa_nil)) (blkOk_by (own := ([("_law_k", 2)] : List (Str × Nat))) (N := N__law_alike) (sc := defScope s__law_alike) (by decide +kernel)) (fun _ _ _ _ _ => by exact (pg_name (i := 2) sc__law_alike.nd rfl (Or.inl rfl))) (fun _ _ _ _ _ => by exact (pts_one (pt_not (pt_val (pe_def G__law_alike (hr.mono (by omega)) (by rfl) (pa_cons (pe_ix (k_ixQ K) (pv 0) (pv 2) (fun _ _ => rfl)) (pa_cons (pe_ix (k_ixQ K) (pv 1) (pv 2) (fun _ _ => rfl)) pa_nil))))))) (fun _ _ _ _ _ => by exact (pv 2))) (pe_lst pa_nil) (nomark _)))))) pss_nil)
 (pss_cons (ps_if (PW.pt (pw_or (pt_cmpR op_isN (pv 1) pe_non (nomark _)) (pw_or1 (pt_val (pe_callB (k_isi K) (by rfl) B.n_isinstance (by decide +kernel) (pa_cons (pv 1) (pa_cons (pe_bltn (v := .ty "str") (u := .type "str") (by rfl) B.n_str (by decide +kernel) rfl) pa_nil))))))) (pss_one (ps_ret (pe_and (pe_cmpR (k_eqD K hr.units) (pv 0) (pv 1) (nomark _)) (pe_one (pe_cmpR op_eq (pe_callB (k_isi K) (by rfl) B.n_isinstance (by decide +kernel) (pa_cons (pv 0) (pa_cons (pe_bltn (v := .ty "str") (u := .type "str") (by rfl) B.n_str (by decide +kernel) rfl) pa_nil))) (pe_callB (k_isi K) (by rfl) B.n_isinstance (by decide +kernel) (pa_cons (pv 1) (pa_cons (pe_bltn (v := .ty "str") (u := .type "str") (by rfl) B.n_str (by decide +kernel) rfl) pa_nil))) (nomark _)))))) pss_nil)
 (pss_one (ps_ret (pe_and (pe_callB (k_isi K) (by rfl) B.n_isinstance (by decide +kernel) (pa_cons (pv 0) (pa_cons (pe_bltn (v := .ty "int") (u := .type "int") (by rfl) B.n_int (by decide +kernel) rfl) pa_nil))) (pe_and (pe_cmpR op_eq (pe_callB (k_isi K) (by rfl) B.n_isinstance (by decide +kernel) (pa_cons (pv 0) (pa_cons (pe_bltn (v := .ty "bool") (u := .type "bool") (by rfl) B.n_bool (by decide +kernel) rfl) pa_nil))) (pe_callB (k_isi K) (by rfl) B.n_isinstance (by decide +kernel) (pa_cons (pv 1) (pa_cons (pe_bltn (v := .ty "bool") (u := .type "bool") (by rfl) B.n_bool (by decide +kernel) rfl) pa_nil))) (nomark _)) (pe_one (pe_cmpR (k_eqD K hr.units) (pv 0) (pv 1) (nomark _))))))))), ?_⟩
      have tu := dp_ty du
      have tv := dp_ty dv
      obtain ⟨bt, bl, e1, e2, h1, h2⟩ : ∃ bt bl : Bool, kitB (tyD d) "tuple" = some bt ∧ kitB (tyD d) "list" = some bl ∧
          ((bt || bl) = true → ∃ (j : Nat) (ds : List PyData) (a b : Addr) (xs ys : List V), n = j + 1 ∧ u = .ref a ∧ v = .ref b ∧ ((SqL K H a xs ∧ SqL K H b ys) ∨ (SqT K H a xs ∧ SqT K H b ys)) ∧ DpAll K H xs ds ∧ DpAll K H ys ds ∧ ds.length ≤ 1000000 ∧ ∀ d ∈ ds, okD j d = true) ∧
          ((bt || bl) = false → SeqAt.shaped d = true ∧ ∃ b3 b4 b5 : Bool, kitB (tyD d) "str" = some b3 ∧ kitB (tyD d) "int" = some b4 ∧ kitB (tyD d) "bool" = some b5 ∧ ((decide (v = V.non) || b3) = false → b4 = true)) := by
        cases du with
        | non =>
          cases dv
          exact ⟨false, false, (show kitB "NoneType" "tuple" = some false by decide +kernel), (show kitB "NoneType" "list" = some false by decide +kernel), fun z => (nomatch z), fun _ => ⟨rfl, false, false, false, (show kitB "NoneType" "str" = some false by decide +kernel), (show kitB "NoneType" "int" = some false by decide +kernel), (show kitB "NoneType" "bool" = some false by decide +kernel), fun z => by simp at z⟩⟩
        | bl b => exact ⟨false, false, (show kitB "bool" "tuple" = some false by decide +kernel), (show kitB "bool" "list" = some false by decide +kernel), fun z => (nomatch z), fun _ => ⟨rfl, false, true, true, (show kitB "bool" "str" = some false by decide +kernel), (show kitB "bool" "int" = some true by decide +kernel), (show kitB "bool" "bool" = some true by decide +kernel), fun _ => rfl⟩⟩
        | int b => exact ⟨false, false, (show kitB "int" "tuple" = some false by decide +kernel), (show kitB "int" "list" = some false by decide +kernel), fun z => (nomatch z), fun _ => ⟨rfl, false, true, false, (show kitB "int" "str" = some false by decide +kernel), (show kitB "int" "int" = some true by decide +kernel), (show kitB "int" "bool" = some false by decide +kernel), fun _ => rfl⟩⟩
        | str b => exact ⟨false, false, (show kitB "str" "tuple" = some false by decide +kernel), (show kitB "str" "list" = some false by decide +kernel), fun z => (nomatch z), fun _ => ⟨by
            have z := okD_can n _ ok
            unfold SeqAt.shaped
            rw [z]
            rfl, true, false, false, (show kitB "str" "str" = some true by decide +kernel), (show kitB "str" "int" = some false by decide +kernel), (show kitB "str" "bool" = some false by decide +kernel), fun z => by simp at z⟩⟩
        | lst s1 a1 =>
          obtain ⟨b, ys, rfl, s2, a2⟩ := dp_lst dv
          cases n with
          | zero => simp [okD] at ok
          | succ j =>
            simp only [okD, Bool.and_eq_true, decide_eq_true_eq, List.all_eq_true] at ok
            exact ⟨false, true, (show kitB "list" "tuple" = some false by decide +kernel), (show kitB "list" "list" = some true by decide +kernel), fun _ => ⟨j, _, _, b, _, ys, rfl, rfl, rfl, .inl ⟨s1, s2⟩, a1, a2, ok.1, ok.2⟩, fun z => (nomatch z)⟩
        | tup s1 a1 =>
          obtain ⟨b, ys, rfl, s2, a2⟩ := dp_tup dv
          cases n with
          | zero => simp [okD] at ok
          | succ j =>
            simp only [okD, Bool.and_eq_true, decide_eq_true_eq, List.all_eq_true] at ok
            exact ⟨true, false, (show kitB "tuple" "tuple" = some true by decide +kernel), (show kitB "tuple" "list" = some false by decide +kernel), fun _ => ⟨j, _, _, b, _, ys, rfl, rfl, rfl, .inr ⟨s1, s2⟩, a1, a2, ok.1, ok.2⟩, fun z => (nomatch z)⟩
      -- isinstance(due, (tuple, list))
      refine ⟨_, rfl, by show 2 ≤ sizeLine; decide, fun p hp => ⟨v, p, _, _, _, bt || bl, rfl, upd_same, .cons (.ty _) (.cons (.ty _) .nil), (tv.same (same_new hp _)).ty, kit2 e1 e2, _, rfl, ?_⟩⟩
      have sp := same_new hp (HO.tup [V.ty "tuple", V.ty "list"])
      cases eb : (bt || bl) with
      | true =>
        obtain ⟨j, ds, a, b, xs, ys, rfl, rfl, rfl, hs, a1, a2, hl, hd⟩ := h1 eb
        have lx := dps_len a1
        have ly := dps_len a2
        refine ⟨_, rfl, by show 2 ≤ sizeLine; decide, fun p2 hp2 => ⟨.ref a, p2, _, _, _, bt || bl, rfl, upd_same, .cons (.ty _) (.cons (.ty _) .nil), ((tu.same sp).same (same_new hp2 _)).ty, kit2 e1 e2, _, rfl, ?_⟩⟩
        rw [eb]
        have s2 := sp.trans (same_new hp2 (HO.tup [V.ty "tuple", V.ty "list"]))
        revert s2
        generalize upd (upd H p (.tup [V.ty "tuple", V.ty "list"])) p2 (.tup [V.ty "tuple", V.ty "list"]) = H2
        intro s2
        have hx : SqL K H2 a xs ∨ SqT K H2 a xs := hs.elim (fun z => .inl (s2.seq z.1)) fun z => .inr (seqT s2 z.1)
        have hy : SqL K H2 b ys ∨ SqT K H2 b ys := hs.elim (fun z => .inl (s2.seq z.2)) fun z => .inr (seqT s2 z.2)
        refine ⟨_, rfl, _, _, _, _, bl, rfl, .ty _, (tu.same s2).ty, kit_any e2, _, rfl, _, _, _, _, bl, rfl, .ty _, (tv.same s2).ty, kit_any e2, by cases bl <;> rfl, !decide (V.bl bl = V.bl bl), rfl, ?_⟩
        rw [decide_eq_true rfl]
        refine ⟨_, rfl, a, xs, rfl, hx, _, rfl, b, ys, rfl, hy, rfl, !decide (V.int (xs.length : Nat) = V.int (ys.length : Nat)), rfl, ?_⟩
        rw [decide_eq_true (by rw [lx, ly])]
        refine ⟨_, rfl, b, ys, rfl, hy, _, rfl, by omega, by omega, fun D hD => lc_range (lo := 0) (n := ((ys.length : Nat) : Int).toNat) (fun i H' => Same H2 H' ∧ H' D = some (.lst [])) ⟨same_new hD _, upd_same⟩ ?_ ?_⟩
        · rintro i H3 hi ⟨s3, eD⟩
          have ix : i < xs.length := by omega
          have iy : i < ys.length := by omega
          obtain ⟨x, qx⟩ : ∃ x, xs[i]? = some x := ⟨_, List.getElem?_eq_getElem ix⟩
          obtain ⟨y, qy⟩ : ∃ y, ys[i]? = some y := ⟨_, List.getElem?_eq_getElem iy⟩
          obtain ⟨dd, qd, dx⟩ := dps_getV (dps_same (s2.trans s3) a1) qx
          obtain ⟨dd', qd', dy⟩ := dps_getV (dps_same (s2.trans s3) a2) qy
          have ed : dd = dd' := Option.some.inj (qd.symm.trans qd')
          subst ed
          have ix' : atI xs (0 + (i : Int)) = some x := by rw [Int.zero_add]; exact atI_nat qx
          have iy' : atI ys (0 + (i : Int)) = some y := by rw [Int.zero_add]; exact atI_nat qy
          refine ⟨rfl, ?_⟩
          have s23 := s2.trans s3
          refine ⟨_, rfl, _, rfl, ixQ_ok (seqQ s3 hx) ix' ⟨_, rfl, _, rfl, ixQ_ok (seqQ s3 hy) iy' ⟨x, y, dd, rfl, dx, dy, hd dd (List.mem_of_getElem? qd), fun H4 s4 => ⟨_, rfl, s3.trans s4, s4 _ _ eD⟩⟩⟩⟩
        · rintro H3 ⟨s3, eD⟩
          refine ⟨by show 0 ≤ sizeLine; decide, fun q hq => ⟨.list [], .list [], .lst (SqL.of (same_new hq _ _ _ eD)) .nil, .lst (SqL.of upd_same) .nil, rfl, rfl, k _ (s2.trans (s3.trans (same_new hq _)))⟩⟩
      | false =>
        obtain ⟨sh, b3, b4, b5, e3, e4, e5, alt⟩ := h2 eb
        have eqv : PyData.eqv d d = true := SeqAt.eqv_refl d (okD_can n d ok)
        have su := tu.same sp
        have sv := tv.same sp
        have dus := dp_same sp du
        have dvs := dp_same sp dv
        have fin : ∀ H', H' = upd H p (.tup [V.ty "tuple", V.ty "list"]) → Q (.bl true) H' := fun H' e => e ▸ k _ sp
        refine ⟨_, rfl, rfl, _, rfl, ?_⟩
        have way1 : ∀ (tt : TS) (D : Ends), tt = tt := fun _ _ => rfl
        by_cases hv : v = .non
        · subst hv
          cases dv
          cases du
          rw [decide_eq_true rfl]
          exact ⟨_, rfl, _, rfl, .none, .none, .non, .non, rfl, rfl, _, rfl, _, rfl, _, _, _, _, false, rfl, .ty _, (AnyV.non).ty, kit_any (show kitB "NoneType" "str" = some false by decide +kernel), _, rfl, _, _, _, _, false, rfl, .ty _, (AnyV.non).ty, kit_any (show kitB "NoneType" "str" = some false by decide +kernel), rfl, fin _ rfl⟩
        · rw [decide_eq_false hv]
          refine ⟨_, rfl, _, _, _, _, b3, rfl, .ty _, sv.ty, kit_any e3, _, rfl, ?_⟩
          cases b3 with
          | true =>
            refine ⟨_, rfl, _, rfl, d, d, dus, dvs, sh, sh, _, rfl, ?_⟩
            rw [eqv]
            refine ⟨_, rfl, _, _, _, _, true, rfl, .ty _, su.ty, kit_any e3, _, rfl, _, _, _, _, true, rfl, .ty _, sv.ty, kit_any e3, rfl, fin _ rfl⟩
          | false =>
            have e4' := alt (by rw [decide_eq_false hv]; rfl)
            subst e4'
            refine ⟨_, rfl, _, _, _, _, true, rfl, .ty _, su.ty, kit_any e4, _, rfl, ?_⟩
            refine ⟨_, rfl, _, _, _, _, b5, rfl, .ty _, su.ty, kit_any e5, _, rfl, _, _, _, _, b5, rfl, .ty _, sv.ty, kit_any e5, by cases b5 <;> rfl, _, rfl, ?_⟩
            rw [decide_eq_true rfl]
            refine ⟨_, rfl, _, rfl, d, d, dus, dvs, sh, sh, ?_⟩
            rw [eqv]
            exact fin _ rfl
/-! ### the law -/
def spLaw (K : PySem.W.Frag) : Sp := fun vs H Q _ => ∃ (a : Addr) (ns : List Int), vs = [.ref a] ∧ SqL K H a (ns.map V.int) ∧ ns.length ≤ 63 ∧ ∀ H', Q (.bl true) H'
theorem okD_walk {t : Tab} {m n : Nat} {r : List Nat} (g : Good t m) (hn : n < t.length) (hr : r.length ≤ 1000) : okD 2 (walkD (walkF t n r)) = true := by
  cases e : walkF t n r with
  | none => rfl
  | some y =>
    obtain ⟨q, ws⟩ := y
    obtain ⟨_, lw, _⟩ := walk_good g r n q ws hn e
    have h1 : okD 1 (lettersD ws) = true := by
      unfold lettersD
      simp only [okD, Bool.and_eq_true, decide_eq_true_eq, List.all_eq_true]
      refine ⟨by rw [List.length_map]; omega, fun d hd => ?_⟩
      obtain ⟨c, _, rfl⟩ := List.mem_map.mp hd
      rfl
    show (decide ([PyData.int (q : Nat), lettersD ws].length ≤ 1000000) && [PyData.int (q : Nat), lettersD ws].all (okD 1)) = true
    rw [Bool.and_eq_true, List.all_cons, List.all_cons, List.all_nil, h1]
    exact ⟨rfl, rfl⟩
section
variable {C : Addr}
theorem ok_law {f : Addr} {fd : FuncData} (F : Fun K "law" "law" s_law f fd) (B : Blt mg) (G__law_mix : DefK P w K mg base CX0 1 "_law_mix" P__law_mix (spMix K)) (G__law_next : DefK P w K mg base CX0 1 "_law_next" P__law_next spNext)
    (G__law_pick : DefK P w K mg base CX0 2 "_law_pick" P__law_pick spPick) (G__law_table : DefK P w K mg base CX0 3 "_law_table" P__law_table (spTable K)) (G__law_row : DefK P w K mg base CX0 2 "_law_row" P__law_row (spLRow K))
    (G__law_walk : DefK P w K mg base CX0 1 "_law_walk" P__law_walk (spLWalk K)) (G__law_alike : DefK P w K mg base CX0 3 "_law_alike" P__law_alike (spAlike K 3)) (G_walk : DefK P w K mg base CX0 4 "walk" P_walk (spWalk K C))
    (m_Machine : MkK P w K mg base CX0 5 C "Machine" P_Machine_init (spMInit K C)) : FnOk P w K mg base CX0 7 f fd P_law (spLaw K) := by
  refine F.ok sc_law (fun vs H Q E h => ?_) (fun cdv A outer s H vs Q E hr h => ?_)
  · obtain ⟨a, ns, rfl, _⟩ := h
    rfl
  · obtain ⟨a, ns, rfl, hS, hlen, k⟩ := h
    refine ⟨_, (pss_cons (ps_set (i := 1) sc_law.nd rfl (Or.inl rfl) (pe_def G__law_mix (hr.mono (by omega)) (by rfl) (pa_cons (pv 0) (pa_cons pe_int pa_nil))))
 (pss_cons (ps_for PassesOwn.never rfl (pi_range1 (by rfl) B.n_range (pa_cons pe_int pa_nil)) (pg_name (i := 2) sc_law.nd rfl (Or.inl rfl))
 (pss_cons (ps_set (i := 3) sc_law.nd rfl (Or.inl rfl) (pe_def G__law_table (hr.mono (by omega)) (by rfl) (pa_cons (pv 1) pa_nil)))
 (pss_one (ps_for PassesOwn.never rfl (k_pil K (pe_lst (pa_cons pe_int (pa_cons pe_int (pa_cons pe_int (pa_cons (pe_def G__law_pick (hr.mono (by omega)) (by rfl) (pa_cons (pv 1) (pa_cons (pe_lst (pa_cons pe_int (pa_cons pe_int pa_nil))) pa_nil))) pa_nil)))))) (pg_name (i := 4) sc_law.nd rfl (Or.inl rfl))
 (pss_cons (ps_par (i := 5) (j := 6) rfl sc_law.nd rfl rfl (by decide) rfl rfl (pa_cons (pe_def G__law_next (hr.mono (by omega)) (by rfl) (pa_cons (pv 1) (pa_cons (pe_callB (k_len K) (by rfl) B.n_len boot_len (pa_cons (pv 3) pa_nil)) pa_nil))) (pa_cons (pe_def G__law_row (hr.mono (by omega)) (by rfl) (pa_cons (pv 1) (pa_cons (pv 3) (pa_cons (pv 4) pa_nil)))) pa_nil)) rfl)
 (pss_one (ps_if (pt_not (pt_val (pe_def G__law_alike (hr.mono (by omega)) (by rfl) (pa_cons (pe_def G_walk (hr.mono (by omega)) (by rfl) (pa_cons (pe_mkM m_Machine (hr.mono (by omega)) (by rfl) (pa_cons (pv 3) pa_nil)) (pa_cons (pv 5) (pa_cons (pv 6) pa_nil)))) (pa_cons (pe_def G__law_walk (hr.mono (by omega)) (by rfl) (pa_cons (pv 3) (pa_cons (pv 5) (pa_cons (pv 6) pa_nil)))) pa_nil))))) (pss_one (ps_ret pe_bl)) pss_nil)))))))
 (pss_one (ps_ret pe_bl)))), ?_⟩
    refine ⟨_, rfl, a, ns, 2, rfl, hS, hlen, by decide, by decide, fun h l H0 s0 _ _ S0 => ?_⟩
    refine ⟨_, rfl, by decide, by decide, for_range (lo := 0) (n := (4 : Int).toNat) (fun i σ H' => ∃ u2 u3 u4 u5 u6, σ = [some (.ref a), some (.ref h), u2, u3, u4, u5, u6] ∧ Src H' h l) ⟨none, none, none, none, none, rfl, S0⟩ ?_ ?_⟩
    · rintro i σ H1 hi ⟨u2, u3, u4, u5, u6, rfl, S1⟩
      refine ⟨_, rfl, h, l, rfl, S1, fun vt t m H2 g dt S2 k2 => ?_⟩
      refine ⟨_, rfl, by show 2 ≤ sizeLine; decide, fun q hq => ⟨h, l, q, _, rfl, S2.same (same_new hq _), upd_same, (S2.neN hq).1, (S2.neN hq).2, by show 0 < 2; decide, by show 2 < 1000000; decide, fun v H3 vm S3 k3 => ?_⟩⟩
      have dt3 : Dp K H3 vt (tabD t) := (S2.same (same_new hq _)).keepD k3 (dp_same (same_new hq _) dt) (noL_tab t)
      obtain ⟨y, rfl, y40⟩ : ∃ y : Nat, v = .int (y : Nat) ∧ y ≤ 40 := by
        have z : v = .int 10 ∨ v = .int 40 := by simpa using vm
        rcases z with rfl | rfl
        · exact ⟨10, rfl, by decide⟩
        · exact ⟨40, rfl, by decide⟩
      refine ⟨by show 4 ≤ sizeLine; decide, fun L hL => ⟨L, rfl, ⟨_, SqL.of upd_same⟩, for_list (K := K) (a := L) (xs := [.int (0 : Nat), .int (1 : Nat), .int (3 : Nat), .int (y : Nat)]) (fun j σ H' => ∃ u4 u5 u6, σ = [some (.ref a), some (.ref h), some (.int (0 + (i : Int))), some vt, u4, u5, u6] ∧ Src H' h l ∧ Dp K H' vt (tabD t) ∧
        H' L = some (.lst [.int (0 : Nat), .int (1 : Nat), .int (3 : Nat), .int (y : Nat)])) ⟨u4, u5, u6, rfl, S3.same (same_new hL _), dp_same (same_new hL _) dt3, upd_same⟩ (fun j σ H' _ ⟨_, _, _, _, _, _, e⟩ => SqL.of e) ?_ ?_⟩⟩
      · have nL := S3.neN hL
        rintro j x σ H4 hx ⟨u4, u5, u6, rfl, S4, dt4, eL⟩
        obtain ⟨c, rfl, c40⟩ : ∃ c : Nat, x = .int (c : Nat) ∧ c ≤ 40 := by
          have z := List.mem_of_getElem? hx
          have z' : x = .int (0 : Nat) ∨ x = .int (1 : Nat) ∨ x = .int (3 : Nat) ∨ x = .int (y : Nat) := by simpa using z
          rcases z' with rfl | rfl | rfl | rfl
          · exact ⟨0, rfl, by decide⟩
          · exact ⟨1, rfl, by decide⟩
          · exact ⟨3, rfl, by decide⟩
          · exact ⟨y, rfl, y40⟩
        obtain ⟨ta, txs, rfl, st, lt⟩ := tab_len dt4
        have lo := g.lo
        have hi6 := g.hi
        refine ⟨_, rfl, _, rfl, ta, txs, rfl, .inr st, h, l, (txs.length : Int), rfl, S4, by omega, by omega, fun n H5 hn S5 k5 => ?_⟩
        have dt5 := S4.keepD k5 dt4 (noL_tab t)
        refine ⟨_, rfl, _, rfl, _, rfl, h, l, _, t, m, c, rfl, S5, g, dt5, by omega, fun vr r H6 dr lr cr S6 k6 => ⟨_, _, rfl, ?_⟩⟩
        have dt6 := S5.keepD k6 dt5 (noL_tab t)
        have eL6 := k6 _ _ nL.1 nL.2 (k5 _ _ nL.1 nL.2 eL)
        have hnt : n < t.length := by omega
        refine ⟨_, rfl, fun x dx nx nd ne => ?_⟩
        have s1 := mk_same C nx nd ne
        refine ⟨x, dx, _, t, m, rfl, upd_same, g, dp_same s1 dt6, fun H7 mm kk => ⟨rfl, ?_⟩⟩
        have s7 : Same H6 H7 := fun b o e => kk b o (ne_of_none e nx) (s1 b o e)
        refine ⟨_, rfl, _, rfl, x, vr, t, m, n, r, rfl, mm, g, hnt, dp_same s7 dr, by omega, cr, fun u H8 s8 du => ?_⟩
        have s68 := s7.trans s8
        refine ⟨_, rfl, _, rfl, _, rfl, _, vr, t, m, n, r, rfl, g, dp_same s68 dt6, hnt, dp_same s68 dr, cr, by omega, fun u2 H9 s9 du2 => ?_⟩
        refine ⟨u, u2, walkD (walkF t n r), rfl, dp_same s9 du, du2, okD_walk g hnt (by omega), fun H10 s10 => ⟨_, rfl, ?_⟩⟩
        have sA := s68.trans (s9.trans s10)
        exact ⟨_, _, _, rfl, S6.same sA, dp_same sA dt6, sA _ _ eL6⟩
      · rintro σ H4 ⟨u4, u5, u6, rfl, S4, dt4, eL⟩
        exact ⟨_, _, _, _, _, rfl, S4⟩
    · rintro σ H1 ⟨u2, u3, u4, u5, u6, rfl, S1⟩
      exact k H1
end
end
/-! ### what the top has left, the head -/
theorem all_mk {l : PySem.W.OpenLaw} {w : World} {K : PySem.W.Frag} {h : Heap} {mg : Str → Option Value} {fa : Addr} (X : K.In h) (G : h.Ns mainGlobals mg) (hfa : mg "law" = some (.ref fa))
    {t_MOST_STANDS : Tok}
    {t_WRITTEN_LETTERS : Tok}
    {t_LONGEST_ROW : Tok}
    {a_LETTER_COUNTS : Addr} {dd_LETTER_COUNTS : Option Addr} {n_LETTER_COUNTS : Nat} {sl_LETTER_COUNTS : Array (Option Value)} {t0_LETTER_COUNTS t1_LETTER_COUNTS : Tok}
    {C : Addr}
    {pa_Machine_table : Addr} {rest_Machine_table : List Value}
    {f_Machine_table : Addr} {od_Machine_table an_Machine_table : Option Addr} {sl_Machine_table : Array (Option Value)} {oc_Machine_table kV_Machine_table dc_Machine_table pm_Machine_table cd_Machine_table ct_Machine_table : Value}
    {pa_Machine_letters : Addr} {rest_Machine_letters : List Value}
    {f_Machine_letters : Addr} {od_Machine_letters an_Machine_letters : Option Addr} {sl_Machine_letters : Array (Option Value)} {oc_Machine_letters kV_Machine_letters dc_Machine_letters pm_Machine_letters cd_Machine_letters ct_Machine_letters : Value}
    {f_Machine_len : Addr} {od_Machine_len an_Machine_len : Option Addr} {sl_Machine_len : Array (Option Value)} {oc_Machine_len kV_Machine_len dc_Machine_len pm_Machine_len cd_Machine_len ct_Machine_len : Value}
    {f_is_below : Addr} {od_is_below an_is_below : Option Addr} {sl_is_below : Array (Option Value)} {oc_is_below kV_is_below dc_is_below pm_is_below cd_is_below ct_is_below : Value}
    {f__is_step : Addr} {od__is_step an__is_step : Option Addr} {sl__is_step : Array (Option Value)} {oc__is_step kV__is_step dc__is_step pm__is_step cd__is_step ct__is_step : Value}
    {f__is_table_row : Addr} {od__is_table_row an__is_table_row : Option Addr} {sl__is_table_row : Array (Option Value)} {oc__is_table_row kV__is_table_row dc__is_table_row pm__is_table_row cd__is_table_row ct__is_table_row : Value}
    {f__check_table : Addr} {od__check_table an__check_table : Option Addr} {sl__check_table : Array (Option Value)} {oc__check_table kV__check_table dc__check_table pm__check_table cd__check_table ct__check_table : Value}
    {f_Machine_init : Addr} {od_Machine_init an_Machine_init : Option Addr} {sl_Machine_init : Array (Option Value)} {oc_Machine_init kV_Machine_init dc_Machine_init pm_Machine_init cd_Machine_init ct_Machine_init : Value}
    {f_check_stand : Addr} {od_check_stand an_check_stand : Option Addr} {sl_check_stand : Array (Option Value)} {oc_check_stand kV_check_stand dc_check_stand pm_check_stand cd_check_stand ct_check_stand : Value}
    {f_check_row : Addr} {od_check_row an_check_row : Option Addr} {sl_check_row : Array (Option Value)} {oc_check_row kV_check_row dc_check_row pm_check_row cd_check_row ct_check_row : Value}
    {f_walk : Addr} {od_walk an_walk : Option Addr} {sl_walk : Array (Option Value)} {oc_walk kV_walk dc_walk pm_walk cd_walk ct_walk : Value}
    {f__law_mix : Addr} {od__law_mix an__law_mix : Option Addr} {sl__law_mix : Array (Option Value)} {oc__law_mix kV__law_mix dc__law_mix pm__law_mix cd__law_mix ct__law_mix : Value}
    {f__law_next : Addr} {od__law_next an__law_next : Option Addr} {sl__law_next : Array (Option Value)} {oc__law_next kV__law_next dc__law_next pm__law_next cd__law_next ct__law_next : Value}
    {f__law_pick : Addr} {od__law_pick an__law_pick : Option Addr} {sl__law_pick : Array (Option Value)} {oc__law_pick kV__law_pick dc__law_pick pm__law_pick cd__law_pick ct__law_pick : Value}
    {f__law_table : Addr} {od__law_table an__law_table : Option Addr} {sl__law_table : Array (Option Value)} {oc__law_table kV__law_table dc__law_table pm__law_table cd__law_table ct__law_table : Value}
    {f__law_row : Addr} {od__law_row an__law_row : Option Addr} {sl__law_row : Array (Option Value)} {oc__law_row kV__law_row dc__law_row pm__law_row cd__law_row ct__law_row : Value}
    {f__law_walk : Addr} {od__law_walk an__law_walk : Option Addr} {sl__law_walk : Array (Option Value)} {oc__law_walk kV__law_walk dc__law_walk pm__law_walk cd__law_walk ct__law_walk : Value}
    {f__law_alike : Addr} {od__law_alike an__law_alike : Option Addr} {sl__law_alike : Array (Option Value)} {oc__law_alike kV__law_alike dc__law_alike pm__law_alike cd__law_alike ct__law_alike : Value}
    {f_law : Addr} {od_law an_law : Option Addr} {sl_law : Array (Option Value)} {oc_law kV_law dc_law pm_law cd_law ct_law : Value}
    (z_set : PySem.W.nsIn K mainGlobals "set" = some none)
    (z_len : PySem.W.nsIn K mainGlobals "len" = some none)
    (z_isinstance : PySem.W.nsIn K mainGlobals "isinstance" = some none)
    (z_int : PySem.W.nsIn K mainGlobals "int" = some none)
    (z_bool : PySem.W.nsIn K mainGlobals "bool" = some none)
    (z_tuple : PySem.W.nsIn K mainGlobals "tuple" = some none)
    (z_list : PySem.W.nsIn K mainGlobals "list" = some none)
    (z_str : PySem.W.nsIn K mainGlobals "str" = some none)
    (z_range : PySem.W.nsIn K mainGlobals "range" = some none)
    (z_enumerate : PySem.W.nsIn K mainGlobals "enumerate" = some none)
    (z_max : PySem.W.nsIn K mainGlobals "max" = some none)
    (z_min : PySem.W.nsIn K mainGlobals "min" = some none)
    (z_all : PySem.W.nsIn K mainGlobals "all" = some none)
    (z_any : PySem.W.nsIn K mainGlobals "any" = some none)
    (z_sorted : PySem.W.nsIn K mainGlobals "sorted" = some none)
    (z_sum : PySem.W.nsIn K mainGlobals "sum" = some none)
    (z_zip : PySem.W.nsIn K mainGlobals "zip" = some none)
    (g_MOST_STANDS : PySem.W.nsIn K mainGlobals "MOST_STANDS" = some (some (.int 6 t_MOST_STANDS)))
    (g_WRITTEN_LETTERS : PySem.W.nsIn K mainGlobals "WRITTEN_LETTERS" = some (some (.int 4 t_WRITTEN_LETTERS)))
    (g_LONGEST_ROW : PySem.W.nsIn K mainGlobals "LONGEST_ROW" = some (some (.int 40 t_LONGEST_ROW)))
    (g_LETTER_COUNTS : PySem.W.nsIn K mainGlobals "LETTER_COUNTS" = some (some (.ref a_LETTER_COUNTS)))
    (o_LETTER_COUNTS : K.lookup a_LETTER_COUNTS = some ⟨.type "tuple", dd_LETTER_COUNTS, .seq #[.int 2 t0_LETTER_COUNTS, .int 3 t1_LETTER_COUNTS] n_LETTER_COUNTS, sl_LETTER_COUNTS⟩)
    (aC : PySem.W.nsIn K mainGlobals "Machine" = some (some (.ref C)))
    (pgC : PySem.W.plainGet K C Str.empty = true)
    (hdC : PySem.W.hasDictIn K C = true)
    (poC : PySem.W.plainOver K C = true)
    (saC : PySem.W.findIn K (.ref C) "__setattr__" = some (some (.builtin "object.__setattr__")))
    (mkC : PySem.W.makesIn K C = true)
    (kcC : PySem.W.keepIn K (.ref C) = true)
    (n__table : PySem.W.findIn K (.ref C) "_table" = some none)
    (pa1_Machine_table : PySem.W.findIn K (.ref C) "table" = some (some (.ref pa_Machine_table)))
    (pa2_Machine_table : PySem.W.specialIn K (.ref pa_Machine_table) "__get__" = some (some (.builtin "property.__get__")))
    (pa3_Machine_table : PySem.W.takesIn K (.ref pa_Machine_table) = some true)
    (pa4_Machine_table : PySem.W.recIn K pa_Machine_table "property" = some (.ref f_Machine_table :: rest_Machine_table))
    (l_Machine_table : K.lookup f_Machine_table = some ⟨oc_Machine_table, od_Machine_table, .func (PySem.W.fnOf "table" "Machine.table" (defArgs s_Machine_table) (defBody s_Machine_table) (defScope s_Machine_table) .none kV_Machine_table dc_Machine_table pm_Machine_table an_Machine_table cd_Machine_table ct_Machine_table), sl_Machine_table⟩)
    (c_Machine_table : PySem.W.codeIn K cd_Machine_table "Machine.table" = true)
    (k_Machine_table : PySem.W.keepIn K (.ref f_Machine_table) = true)
    (pa1_Machine_letters : PySem.W.findIn K (.ref C) "letters" = some (some (.ref pa_Machine_letters)))
    (pa2_Machine_letters : PySem.W.specialIn K (.ref pa_Machine_letters) "__get__" = some (some (.builtin "property.__get__")))
    (pa3_Machine_letters : PySem.W.takesIn K (.ref pa_Machine_letters) = some true)
    (pa4_Machine_letters : PySem.W.recIn K pa_Machine_letters "property" = some (.ref f_Machine_letters :: rest_Machine_letters))
    (l_Machine_letters : K.lookup f_Machine_letters = some ⟨oc_Machine_letters, od_Machine_letters, .func (PySem.W.fnOf "letters" "Machine.letters" (defArgs s_Machine_letters) (defBody s_Machine_letters) (defScope s_Machine_letters) .none kV_Machine_letters dc_Machine_letters pm_Machine_letters an_Machine_letters cd_Machine_letters ct_Machine_letters), sl_Machine_letters⟩)
    (c_Machine_letters : PySem.W.codeIn K cd_Machine_letters "Machine.letters" = true)
    (k_Machine_letters : PySem.W.keepIn K (.ref f_Machine_letters) = true)
    (m1_Machine_len : PySem.W.findIn K (.ref C) "__len__" = some (some (.ref f_Machine_len)))
    (l_Machine_len : K.lookup f_Machine_len = some ⟨oc_Machine_len, od_Machine_len, .func (PySem.W.fnOf "__len__" "Machine.__len__" (defArgs s_Machine_len) (defBody s_Machine_len) (defScope s_Machine_len) .none kV_Machine_len dc_Machine_len pm_Machine_len an_Machine_len cd_Machine_len ct_Machine_len), sl_Machine_len⟩)
    (c_Machine_len : PySem.W.codeIn K cd_Machine_len "Machine.__len__" = true)
    (k_Machine_len : PySem.W.keepIn K (.ref f_Machine_len) = true)
    (m2_Machine_len : PySem.W.isFn K (.ref f_Machine_len) = true)
    (a_is_below : PySem.W.nsIn K mainGlobals "is_below" = some (some (.ref f_is_below)))
    (l_is_below : K.lookup f_is_below = some ⟨oc_is_below, od_is_below, .func (PySem.W.fnOf "is_below" "is_below" (defArgs s_is_below) (defBody s_is_below) (defScope s_is_below) .none kV_is_below dc_is_below pm_is_below an_is_below cd_is_below ct_is_below), sl_is_below⟩)
    (c_is_below : PySem.W.codeIn K cd_is_below "is_below" = true)
    (k_is_below : PySem.W.keepIn K (.ref f_is_below) = true)
    (a__is_step : PySem.W.nsIn K mainGlobals "_is_step" = some (some (.ref f__is_step)))
    (l__is_step : K.lookup f__is_step = some ⟨oc__is_step, od__is_step, .func (PySem.W.fnOf "_is_step" "_is_step" (defArgs s__is_step) (defBody s__is_step) (defScope s__is_step) .none kV__is_step dc__is_step pm__is_step an__is_step cd__is_step ct__is_step), sl__is_step⟩)
    (c__is_step : PySem.W.codeIn K cd__is_step "_is_step" = true)
    (k__is_step : PySem.W.keepIn K (.ref f__is_step) = true)
    (a__is_table_row : PySem.W.nsIn K mainGlobals "_is_table_row" = some (some (.ref f__is_table_row)))
    (l__is_table_row : K.lookup f__is_table_row = some ⟨oc__is_table_row, od__is_table_row, .func (PySem.W.fnOf "_is_table_row" "_is_table_row" (defArgs s__is_table_row) (defBody s__is_table_row) (defScope s__is_table_row) .none kV__is_table_row dc__is_table_row pm__is_table_row an__is_table_row cd__is_table_row ct__is_table_row), sl__is_table_row⟩)
    (c__is_table_row : PySem.W.codeIn K cd__is_table_row "_is_table_row" = true)
    (k__is_table_row : PySem.W.keepIn K (.ref f__is_table_row) = true)
    (a__check_table : PySem.W.nsIn K mainGlobals "_check_table" = some (some (.ref f__check_table)))
    (l__check_table : K.lookup f__check_table = some ⟨oc__check_table, od__check_table, .func (PySem.W.fnOf "_check_table" "_check_table" (defArgs s__check_table) (defBody s__check_table) (defScope s__check_table) .none kV__check_table dc__check_table pm__check_table an__check_table cd__check_table ct__check_table), sl__check_table⟩)
    (c__check_table : PySem.W.codeIn K cd__check_table "_check_table" = true)
    (k__check_table : PySem.W.keepIn K (.ref f__check_table) = true)
    (m1_Machine_init : PySem.W.findIn K (.ref C) "__init__" = some (some (.ref f_Machine_init)))
    (l_Machine_init : K.lookup f_Machine_init = some ⟨oc_Machine_init, od_Machine_init, .func (PySem.W.fnOf "__init__" "Machine.__init__" (defArgs s_Machine_init) (defBody s_Machine_init) (defScope s_Machine_init) .none kV_Machine_init dc_Machine_init pm_Machine_init an_Machine_init cd_Machine_init ct_Machine_init), sl_Machine_init⟩)
    (c_Machine_init : PySem.W.codeIn K cd_Machine_init "Machine.__init__" = true)
    (k_Machine_init : PySem.W.keepIn K (.ref f_Machine_init) = true)
    (m2_Machine_init : PySem.W.isFn K (.ref f_Machine_init) = true)
    (a_check_stand : PySem.W.nsIn K mainGlobals "check_stand" = some (some (.ref f_check_stand)))
    (l_check_stand : K.lookup f_check_stand = some ⟨oc_check_stand, od_check_stand, .func (PySem.W.fnOf "check_stand" "check_stand" (defArgs s_check_stand) (defBody s_check_stand) (defScope s_check_stand) .none kV_check_stand dc_check_stand pm_check_stand an_check_stand cd_check_stand ct_check_stand), sl_check_stand⟩)
    (c_check_stand : PySem.W.codeIn K cd_check_stand "check_stand" = true)
    (k_check_stand : PySem.W.keepIn K (.ref f_check_stand) = true)
    (a_check_row : PySem.W.nsIn K mainGlobals "check_row" = some (some (.ref f_check_row)))
    (l_check_row : K.lookup f_check_row = some ⟨oc_check_row, od_check_row, .func (PySem.W.fnOf "check_row" "check_row" (defArgs s_check_row) (defBody s_check_row) (defScope s_check_row) .none kV_check_row dc_check_row pm_check_row an_check_row cd_check_row ct_check_row), sl_check_row⟩)
    (c_check_row : PySem.W.codeIn K cd_check_row "check_row" = true)
    (k_check_row : PySem.W.keepIn K (.ref f_check_row) = true)
    (a_walk : PySem.W.nsIn K mainGlobals "walk" = some (some (.ref f_walk)))
    (l_walk : K.lookup f_walk = some ⟨oc_walk, od_walk, .func (PySem.W.fnOf "walk" "walk" (defArgs s_walk) (defBody s_walk) (defScope s_walk) .none kV_walk dc_walk pm_walk an_walk cd_walk ct_walk), sl_walk⟩)
    (c_walk : PySem.W.codeIn K cd_walk "walk" = true)
    (k_walk : PySem.W.keepIn K (.ref f_walk) = true)
    (a__law_mix : PySem.W.nsIn K mainGlobals "_law_mix" = some (some (.ref f__law_mix)))
    (l__law_mix : K.lookup f__law_mix = some ⟨oc__law_mix, od__law_mix, .func (PySem.W.fnOf "_law_mix" "_law_mix" (defArgs s__law_mix) (defBody s__law_mix) (defScope s__law_mix) .none kV__law_mix dc__law_mix pm__law_mix an__law_mix cd__law_mix ct__law_mix), sl__law_mix⟩)
    (c__law_mix : PySem.W.codeIn K cd__law_mix "_law_mix" = true)
    (k__law_mix : PySem.W.keepIn K (.ref f__law_mix) = true)
    (a__law_next : PySem.W.nsIn K mainGlobals "_law_next" = some (some (.ref f__law_next)))
    (l__law_next : K.lookup f__law_next = some ⟨oc__law_next, od__law_next, .func (PySem.W.fnOf "_law_next" "_law_next" (defArgs s__law_next) (defBody s__law_next) (defScope s__law_next) .none kV__law_next dc__law_next pm__law_next an__law_next cd__law_next ct__law_next), sl__law_next⟩)
    (c__law_next : PySem.W.codeIn K cd__law_next "_law_next" = true)
    (k__law_next : PySem.W.keepIn K (.ref f__law_next) = true)
    (a__law_pick : PySem.W.nsIn K mainGlobals "_law_pick" = some (some (.ref f__law_pick)))
    (l__law_pick : K.lookup f__law_pick = some ⟨oc__law_pick, od__law_pick, .func (PySem.W.fnOf "_law_pick" "_law_pick" (defArgs s__law_pick) (defBody s__law_pick) (defScope s__law_pick) .none kV__law_pick dc__law_pick pm__law_pick an__law_pick cd__law_pick ct__law_pick), sl__law_pick⟩)
    (c__law_pick : PySem.W.codeIn K cd__law_pick "_law_pick" = true)
    (k__law_pick : PySem.W.keepIn K (.ref f__law_pick) = true)
    (a__law_table : PySem.W.nsIn K mainGlobals "_law_table" = some (some (.ref f__law_table)))
    (l__law_table : K.lookup f__law_table = some ⟨oc__law_table, od__law_table, .func (PySem.W.fnOf "_law_table" "_law_table" (defArgs s__law_table) (defBody s__law_table) (defScope s__law_table) .none kV__law_table dc__law_table pm__law_table an__law_table cd__law_table ct__law_table), sl__law_table⟩)
    (c__law_table : PySem.W.codeIn K cd__law_table "_law_table" = true)
    (k__law_table : PySem.W.keepIn K (.ref f__law_table) = true)
    (a__law_row : PySem.W.nsIn K mainGlobals "_law_row" = some (some (.ref f__law_row)))
    (l__law_row : K.lookup f__law_row = some ⟨oc__law_row, od__law_row, .func (PySem.W.fnOf "_law_row" "_law_row" (defArgs s__law_row) (defBody s__law_row) (defScope s__law_row) .none kV__law_row dc__law_row pm__law_row an__law_row cd__law_row ct__law_row), sl__law_row⟩)
    (c__law_row : PySem.W.codeIn K cd__law_row "_law_row" = true)
    (k__law_row : PySem.W.keepIn K (.ref f__law_row) = true)
    (a__law_walk : PySem.W.nsIn K mainGlobals "_law_walk" = some (some (.ref f__law_walk)))
    (l__law_walk : K.lookup f__law_walk = some ⟨oc__law_walk, od__law_walk, .func (PySem.W.fnOf "_law_walk" "_law_walk" (defArgs s__law_walk) (defBody s__law_walk) (defScope s__law_walk) .none kV__law_walk dc__law_walk pm__law_walk an__law_walk cd__law_walk ct__law_walk), sl__law_walk⟩)
    (c__law_walk : PySem.W.codeIn K cd__law_walk "_law_walk" = true)
    (k__law_walk : PySem.W.keepIn K (.ref f__law_walk) = true)
    (a__law_alike : PySem.W.nsIn K mainGlobals "_law_alike" = some (some (.ref f__law_alike)))
    (l__law_alike : K.lookup f__law_alike = some ⟨oc__law_alike, od__law_alike, .func (PySem.W.fnOf "_law_alike" "_law_alike" (defArgs s__law_alike) (defBody s__law_alike) (defScope s__law_alike) .none kV__law_alike dc__law_alike pm__law_alike an__law_alike cd__law_alike ct__law_alike), sl__law_alike⟩)
    (c__law_alike : PySem.W.codeIn K cd__law_alike "_law_alike" = true)
    (k__law_alike : PySem.W.keepIn K (.ref f__law_alike) = true)
    (a_law : PySem.W.nsIn K mainGlobals "law" = some (some (.ref f_law)))
    (l_law : K.lookup f_law = some ⟨oc_law, od_law, .func (PySem.W.fnOf "law" "law" (defArgs s_law) (defBody s_law) (defScope s_law) .none kV_law dc_law pm_law an_law cd_law ct_law), sl_law⟩)
    (c_law : PySem.W.codeIn K cd_law "law" = true)
    (k_law : PySem.W.keepIn K (.ref f_law) = true)
    : ∃ fd : FuncData, (∀ (s : Shared) (v : Value), BindsTo s fd ⟨[v], []⟩ [("_law_script", v)]) ∧ ∀ base : Heap, K.In base → base.Ns mainGlobals mg → FnOk l.prog w K mg base CX0 7 fa fd ["_law_script"] (spLaw K) := by
  have e := hfa.symm.trans (PySem.W.mg_of X G a_law)
  cases e
  refine ⟨PySem.W.fnOf "law" "law" (defArgs s_law) (defBody s_law) (defScope s_law) .none kV_law dc_law pm_law an_law cd_law ct_law, fun s v => .of_eq rfl, fun base _ _ => ?_⟩
  have B : Blt mg := ⟨PySem.W.mg_none_of X G z_set, PySem.W.mg_none_of X G z_len, PySem.W.mg_none_of X G z_isinstance, PySem.W.mg_none_of X G z_int, PySem.W.mg_none_of X G z_bool, PySem.W.mg_none_of X G z_tuple, PySem.W.mg_none_of X G z_list, PySem.W.mg_none_of X G z_str, PySem.W.mg_none_of X G z_range, PySem.W.mg_none_of X G z_enumerate, PySem.W.mg_none_of X G z_max, PySem.W.mg_none_of X G z_min, PySem.W.mg_none_of X G z_all, PySem.W.mg_none_of X G z_any, PySem.W.mg_none_of X G z_sorted, PySem.W.mg_none_of X G z_sum, PySem.W.mg_none_of X G z_zip⟩
  have gi_MOST_STANDS := PySem.W.mg_of X G g_MOST_STANDS
  have gi_WRITTEN_LETTERS := PySem.W.mg_of X G g_WRITTEN_LETTERS
  have gi_LONGEST_ROW := PySem.W.mg_of X G g_LONGEST_ROW
  have gr_LETTER_COUNTS := PySem.W.mg_of X G g_LETTER_COUNTS
  have h_LETTER_COUNTS : ∀ H : Hp, SqT K H a_LETTER_COUNTS [.int 2, .int 3] := fun H => .inr ⟨_, _, _, o_LETTER_COUNTS, rfl, rfl, (by show 2 ≤ sizeLine; decide), (.cons ⟨_, rfl⟩ (.cons ⟨_, rfl⟩ .nil))⟩
  have T : Txt K C := ⟨⟨pgC, hdC, poC, saC⟩, n__table⟩
  have F_Machine_table := fun_mk (st := s_Machine_table) l_Machine_table c_Machine_table k_Machine_table
  have p_table : PropK l.prog w K mg base 1 C "table" (spMGet K C) := ⟨T.cl, pa_Machine_table, f_Machine_table, _, ⟨pa1_Machine_table, pa2_Machine_table, pa3_Machine_table, rest_Machine_table, pa4_Machine_table⟩, ok_Machine_table F_Machine_table T, F_Machine_table.binds (ps := ["self"]) fun _ _ _ _ _ _ us hl => match us, hl with | [_], _ => rfl⟩
  have F_Machine_letters := fun_mk (st := s_Machine_letters) l_Machine_letters c_Machine_letters k_Machine_letters
  have p_letters : PropK l.prog w K mg base 1 C "letters" (spMLet K C) := ⟨T.cl, pa_Machine_letters, f_Machine_letters, _, ⟨pa1_Machine_letters, pa2_Machine_letters, pa3_Machine_letters, rest_Machine_letters, pa4_Machine_letters⟩, ok_Machine_letters F_Machine_letters T B, F_Machine_letters.binds (ps := ["self"]) fun _ _ _ _ _ _ us hl => match us, hl with | [_], _ => rfl⟩
  have F_Machine_len := fun_mk (st := s_Machine_len) l_Machine_len c_Machine_len k_Machine_len
  have l_Machine : LenK l.prog w K mg base 1 C (spMLen K C) := ⟨f_Machine_len, _, m1_Machine_len, m2_Machine_len, ok_Machine_len F_Machine_len T B, F_Machine_len.binds (ps := ["self"]) fun _ _ _ _ _ _ us hl => match us, hl with | [_], _ => rfl⟩
  have F_is_below := fun_mk (st := s_is_below) l_is_below c_is_below k_is_below
  have bd_is_below := F_is_below.binds (ps := P_is_below) fun _ _ _ _ _ _ us hl => match us, hl with | [_, _], _ => rfl
  have mg_is_below := PySem.W.mg_of X G a_is_below
  have G_is_below : DefK l.prog w K mg base CX0 1 "is_below" P_is_below (spBelow K) := ⟨f_is_below, _, ok_is_below F_is_below B, mg_is_below, k_is_below, bd_is_below⟩
  have F__is_step := fun_mk (st := s__is_step) l__is_step c__is_step k__is_step
  have bd__is_step := F__is_step.binds (ps := P__is_step) fun _ _ _ _ _ _ us hl => match us, hl with | [_, _], _ => rfl
  have mg__is_step := PySem.W.mg_of X G a__is_step
  have G__is_step : DefK l.prog w K mg base CX0 2 "_is_step" P__is_step (spStep K) := ⟨f__is_step, _, ok_is_step F__is_step B gi_WRITTEN_LETTERS G_is_below, mg__is_step, k__is_step, bd__is_step⟩
  have F__is_table_row := fun_mk (st := s__is_table_row) l__is_table_row c__is_table_row k__is_table_row
  have bd__is_table_row := F__is_table_row.binds (ps := P__is_table_row) fun _ _ _ _ _ _ us hl => match us, hl with | [_, _], _ => rfl
  have mg__is_table_row := PySem.W.mg_of X G a__is_table_row
  have G__is_table_row : DefK l.prog w K mg base CX0 3 "_is_table_row" P__is_table_row (spRowOk K) := ⟨f__is_table_row, _, ok_is_table_row F__is_table_row B gr_LETTER_COUNTS h_LETTER_COUNTS G__is_step, mg__is_table_row, k__is_table_row, bd__is_table_row⟩
  have F__check_table := fun_mk (st := s__check_table) l__check_table c__check_table k__check_table
  have bd__check_table := F__check_table.binds (ps := P__check_table) fun _ _ _ _ _ _ us hl => match us, hl with | [_], _ => rfl
  have mg__check_table := PySem.W.mg_of X G a__check_table
  have G__check_table : DefK l.prog w K mg base CX0 4 "_check_table" P__check_table (spTabOk K) := ⟨f__check_table, _, ok_check_table F__check_table B gi_MOST_STANDS G__is_table_row, mg__check_table, k__check_table, bd__check_table⟩
  have F_Machine_init := fun_mk (st := s_Machine_init) l_Machine_init c_Machine_init k_Machine_init
  have m_Machine : MkK l.prog w K mg base CX0 5 C "Machine" P_Machine_init (spMInit K C) := ⟨PySem.W.mg_of X G aC, f_Machine_init, _, ⟨mkC, m1_Machine_init, m2_Machine_init, kcC⟩, ok_Machine_init F_Machine_init T G__check_table, F_Machine_init.binds (ps := P_Machine_init) fun _ _ _ _ _ _ us hl => match us, hl with | [_, _], _ => rfl⟩
  have F_check_stand := fun_mk (st := s_check_stand) l_check_stand c_check_stand k_check_stand
  have bd_check_stand := F_check_stand.binds (ps := P_check_stand) fun _ _ _ _ _ _ us hl => match us, hl with | [_, _], _ => rfl
  have mg_check_stand := PySem.W.mg_of X G a_check_stand
  have G_check_stand : DefK l.prog w K mg base CX0 3 "check_stand" P_check_stand (spStandOk K C) := ⟨f_check_stand, _, ok_check_stand F_check_stand B G_is_below l_Machine, mg_check_stand, k_check_stand, bd_check_stand⟩
  have F_check_row := fun_mk (st := s_check_row) l_check_row c_check_row k_check_row
  have bd_check_row := F_check_row.binds (ps := P_check_row) fun _ _ _ _ _ _ us hl => match us, hl with | [_, _], _ => rfl
  have mg_check_row := PySem.W.mg_of X G a_check_row
  have G_check_row : DefK l.prog w K mg base CX0 3 "check_row" P_check_row (spRowGood K C) := ⟨f_check_row, _, ok_check_row F_check_row B gi_LONGEST_ROW G_is_below p_letters, mg_check_row, k_check_row, bd_check_row⟩
  have F_walk := fun_mk (st := s_walk) l_walk c_walk k_walk
  have bd_walk := F_walk.binds (ps := P_walk) fun _ _ _ _ _ _ us hl => match us, hl with | [_, _, _], _ => rfl
  have mg_walk := PySem.W.mg_of X G a_walk
  have G_walk : DefK l.prog w K mg base CX0 4 "walk" P_walk (spWalk K C) := ⟨f_walk, _, ok_walk F_walk B G_check_stand G_check_row p_table, mg_walk, k_walk, bd_walk⟩
  have F__law_mix := fun_mk (st := s__law_mix) l__law_mix c__law_mix k__law_mix
  have bd__law_mix := F__law_mix.binds (ps := P__law_mix) fun _ _ _ _ _ _ us hl => match us, hl with | [_, _], _ => rfl
  have mg__law_mix := PySem.W.mg_of X G a__law_mix
  have G__law_mix : DefK l.prog w K mg base CX0 1 "_law_mix" P__law_mix (spMix K) := ⟨f__law_mix, _, ok_law_mix F__law_mix B, mg__law_mix, k__law_mix, bd__law_mix⟩
  have F__law_next := fun_mk (st := s__law_next) l__law_next c__law_next k__law_next
  have bd__law_next := F__law_next.binds (ps := P__law_next) fun _ _ _ _ _ _ us hl => match us, hl with | [_, _], _ => rfl
  have mg__law_next := PySem.W.mg_of X G a__law_next
  have G__law_next : DefK l.prog w K mg base CX0 1 "_law_next" P__law_next (spNext) := ⟨f__law_next, _, ok_law_next F__law_next B, mg__law_next, k__law_next, bd__law_next⟩
  have F__law_pick := fun_mk (st := s__law_pick) l__law_pick c__law_pick k__law_pick
  have bd__law_pick := F__law_pick.binds (ps := P__law_pick) fun _ _ _ _ _ _ us hl => match us, hl with | [_, _], _ => rfl
  have mg__law_pick := PySem.W.mg_of X G a__law_pick
  have G__law_pick : DefK l.prog w K mg base CX0 2 "_law_pick" P__law_pick (spPick) := ⟨f__law_pick, _, ok_law_pick F__law_pick B G__law_next, mg__law_pick, k__law_pick, bd__law_pick⟩
  have F__law_table := fun_mk (st := s__law_table) l__law_table c__law_table k__law_table
  have bd__law_table := F__law_table.binds (ps := P__law_table) fun _ _ _ _ _ _ us hl => match us, hl with | [_], _ => rfl
  have mg__law_table := PySem.W.mg_of X G a__law_table
  have G__law_table : DefK l.prog w K mg base CX0 3 "_law_table" P__law_table (spTable K) := ⟨f__law_table, _, ok_law_table F__law_table B G__law_next G__law_pick, mg__law_table, k__law_table, bd__law_table⟩
  have F__law_row := fun_mk (st := s__law_row) l__law_row c__law_row k__law_row
  have bd__law_row := F__law_row.binds (ps := P__law_row) fun _ _ _ _ _ _ us hl => match us, hl with | [_, _, _], _ => rfl
  have mg__law_row := PySem.W.mg_of X G a__law_row
  have G__law_row : DefK l.prog w K mg base CX0 2 "_law_row" P__law_row (spLRow K) := ⟨f__law_row, _, ok_law_row F__law_row B G__law_next, mg__law_row, k__law_row, bd__law_row⟩
  have F__law_walk := fun_mk (st := s__law_walk) l__law_walk c__law_walk k__law_walk
  have bd__law_walk := F__law_walk.binds (ps := P__law_walk) fun _ _ _ _ _ _ us hl => match us, hl with | [_, _, _], _ => rfl
  have mg__law_walk := PySem.W.mg_of X G a__law_walk
  have G__law_walk : DefK l.prog w K mg base CX0 1 "_law_walk" P__law_walk (spLWalk K) := ⟨f__law_walk, _, ok_law_walk F__law_walk B, mg__law_walk, k__law_walk, bd__law_walk⟩
  have F__law_alike := fun_mk (st := s__law_alike) l__law_alike c__law_alike k__law_alike
  have bd__law_alike := F__law_alike.binds (ps := P__law_alike) fun _ _ _ _ _ _ us hl => match us, hl with | [_, _], _ => rfl
  have mg__law_alike := PySem.W.mg_of X G a__law_alike
  have G__law_alike : DefK l.prog w K mg base CX0 3 "_law_alike" P__law_alike (spAlike K 3) := ⟨f__law_alike, _, ok_law_alike F__law_alike B mg__law_alike bd__law_alike 3, mg__law_alike, k__law_alike, bd__law_alike⟩
  exact ok_law (fun_mk (st := s_law) l_law c_law k_law) B G__law_mix G__law_next G__law_pick G__law_table G__law_row G__law_walk G__law_alike G_walk m_Machine
theorem walk_law {l : PySem.W.OpenLaw} {q : Program} {loose : List Str} {XP : (Str → Option Value) → Heap → Prop} {YP : World → Heap → Prop} {d : DefRec} {K : Params → PySem.W.Frag} (hn : l.most = some 63) (hdf : d.params.defaults = [])
    (hY : ∀ (w : World) (h : Heap), YP w h → (K w.params).In h)
    (F : ∀ (w : World) (mg : Str → Option Value) (fa : Addr) (h : Heap), (K w.params).In h → h.Ns mainGlobals mg → mg d.name = some (.ref fa) →
      ∃ fd : FuncData, (∀ (s : Shared) (u : Value), BindsTo s fd ⟨[u], []⟩ [("_law_script", u)]) ∧ ∀ base : Heap, (K w.params).In base → base.Ns mainGlobals mg → FnOk l.prog w (K w.params) mg base CX0 7 fa fd ["_law_script"] (spLaw (K w.params))) :
    PySem.W.WalkO q loose XP YP l.row.toRowW d [] (fun f vs => PySem.call f vs) :=
  L2.walk_of (n := 63) (k := 7) (x := "_law_script") (CX := fun _ => CX0) (sp := fun w => spLaw (K w.params)) hn (by decide) hdf ⟨rfl, by decide, by decide⟩ hY F (fun _ _ a ns hl _ hS => ⟨a, ns, rfl, hS, hl, fun _ => rfl⟩) fun _ _ _ _ _ z => z
end WS
open PySem PySem.W PyProof.Rows in
set_option maxRecDepth 100000 in
set_option maxHeartbeats 0 in
theorem PySem.Challenge.cw_whichstand_k02_whole_walks_holds : PySem.Challenge.rw_whichstand_k02_whole_walks.Holds := by
  w_on; o_law; k_head; (case hw => w_witness2)
  k_fill
  refine WS.walk_law (l := PySem.Challenge.rw_whichstand_k02_whole_walks) rfl rfl (fun w h Y => PySem.W.kIn_of Y) ?F
  case F =>
    intro w mg fa h KX G hmg
    refine' WS.all_mk KX G hmg ?z_set ?z_len ?z_isinstance ?z_int ?z_bool ?z_tuple ?z_list ?z_str ?z_range ?z_enumerate ?z_max ?z_min ?z_all ?z_any ?z_sorted ?z_sum ?z_zip ?g_MOST_STANDS ?g_WRITTEN_LETTERS ?g_LONGEST_ROW ?g_LETTER_COUNTS ?o_LETTER_COUNTS ?aC ?pgC ?hdC ?poC ?saC ?mkC ?kcC ?n__table ?pa1_Machine_table ?pa2_Machine_table ?pa3_Machine_table ?pa4_Machine_table ?l_Machine_table ?c_Machine_table ?k_Machine_table ?pa1_Machine_letters ?pa2_Machine_letters ?pa3_Machine_letters ?pa4_Machine_letters ?l_Machine_letters ?c_Machine_letters ?k_Machine_letters ?m1_Machine_len ?l_Machine_len ?c_Machine_len ?k_Machine_len ?m2_Machine_len ?a_is_below ?l_is_below ?c_is_below ?k_is_below ?a__is_step ?l__is_step ?c__is_step ?k__is_step ?a__is_table_row ?l__is_table_row ?c__is_table_row ?k__is_table_row ?a__check_table ?l__check_table ?c__check_table ?k__check_table ?m1_Machine_init ?l_Machine_init ?c_Machine_init ?k_Machine_init ?m2_Machine_init ?a_check_stand ?l_check_stand ?c_check_stand ?k_check_stand ?a_check_row ?l_check_row ?c_check_row ?k_check_row ?a_walk ?l_walk ?c_walk ?k_walk ?a__law_mix ?l__law_mix ?c__law_mix ?k__law_mix ?a__law_next ?l__law_next ?c__law_next ?k__law_next ?a__law_pick ?l__law_pick ?c__law_pick ?k__law_pick ?a__law_table ?l__law_table ?c__law_table ?k__law_table ?a__law_row ?l__law_row ?c__law_row ?k__law_row ?a__law_walk ?l__law_walk ?c__law_walk ?k__law_walk ?a__law_alike ?l__law_alike ?c__law_alike ?k__law_alike ?a_law ?l_law ?c_law ?k_law
    (case z_set => k_is)
    (case z_len => k_is)
    (case z_isinstance => k_is)
    (case z_int => k_is)
    (case z_bool => k_is)
    (case z_tuple => k_is)
    (case z_list => k_is)
    (case z_str => k_is)
    (case z_range => k_is)
    (case z_enumerate => k_is)
    (case z_max => k_is)
    (case z_min => k_is)
    (case z_all => k_is)
    (case z_any => k_is)
    (case z_sorted => k_is)
    (case z_sum => k_is)
    (case z_zip => k_is)
    (case g_MOST_STANDS => k_is)
    (case g_WRITTEN_LETTERS => k_is)
    (case g_LONGEST_ROW => k_is)
    (case g_LETTER_COUNTS => k_is)
    (case o_LETTER_COUNTS => k_is)
    (case aC => k_is)
    (case pgC => k_is)
    (case hdC => k_is)
    (case poC => k_is)
    (case saC => k_is)
    (case mkC => k_is)
    (case kcC => k_is)
    (case n__table => k_is)
    (case pa1_Machine_table => k_is)
    (case pa2_Machine_table => k_is)
    (case pa3_Machine_table => k_is)
    (case pa4_Machine_table => k_is)
    (case l_Machine_table => k_is)
    (case c_Machine_table => k_is)
    (case k_Machine_table => k_is)
    (case pa1_Machine_letters => k_is)
    (case pa2_Machine_letters => k_is)
    (case pa3_Machine_letters => k_is)
    (case pa4_Machine_letters => k_is)
    (case l_Machine_letters => k_is)
    (case c_Machine_letters => k_is)
    (case k_Machine_letters => k_is)
    (case m1_Machine_len => k_is)
    (case l_Machine_len => k_is)
    (case c_Machine_len => k_is)
    (case k_Machine_len => k_is)
    (case m2_Machine_len => k_is)
    (case a_is_below => k_is)
    (case l_is_below => k_is)
    (case c_is_below => k_is)
    (case k_is_below => k_is)
    (case a__is_step => k_is)
    (case l__is_step => k_is)
    (case c__is_step => k_is)
    (case k__is_step => k_is)
    (case a__is_table_row => k_is)
    (case l__is_table_row => k_is)
    (case c__is_table_row => k_is)
    (case k__is_table_row => k_is)
    (case a__check_table => k_is)
    (case l__check_table => k_is)
    (case c__check_table => k_is)
    (case k__check_table => k_is)
    (case m1_Machine_init => k_is)
    (case l_Machine_init => k_is)
    (case c_Machine_init => k_is)
    (case k_Machine_init => k_is)
    (case m2_Machine_init => k_is)
    (case a_check_stand => k_is)
    (case l_check_stand => k_is)
    (case c_check_stand => k_is)
    (case k_check_stand => k_is)
    (case a_check_row => k_is)
    (case l_check_row => k_is)
    (case c_check_row => k_is)
    (case k_check_row => k_is)
    (case a_walk => k_is)
    (case l_walk => k_is)
    (case c_walk => k_is)
    (case k_walk => k_is)
    (case a__law_mix => k_is)
    (case l__law_mix => k_is)
    (case c__law_mix => k_is)
    (case k__law_mix => k_is)
    (case a__law_next => k_is)
    (case l__law_next => k_is)
    (case c__law_next => k_is)
    (case k__law_next => k_is)
    (case a__law_pick => k_is)
    (case l__law_pick => k_is)
    (case c__law_pick => k_is)
    (case k__law_pick => k_is)
    (case a__law_table => k_is)
    (case l__law_table => k_is)
    (case c__law_table => k_is)
    (case k__law_table => k_is)
    (case a__law_row => k_is)
    (case l__law_row => k_is)
    (case c__law_row => k_is)
    (case k__law_row => k_is)
    (case a__law_walk => k_is)
    (case l__law_walk => k_is)
    (case c__law_walk => k_is)
    (case k__law_walk => k_is)
    (case a__law_alike => k_is)
    (case l__law_alike => k_is)
    (case c__law_alike => k_is)
    (case k__law_alike => k_is)
    (case a_law => k_is)
    (case l_law => k_is)
    (case c_law => k_is)
    (case k_law => k_is)
