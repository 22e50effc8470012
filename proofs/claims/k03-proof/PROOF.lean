import PyProof.Rows.All
import Wide.All
import OpenK.AllK
import Wide.FinOn
import HandS.ForMost
import HandS.Iter
import HandS.IsInst
import HandS.Style
import HandS.Property
import HandS.TupAny
import KE.GoesEnum
import KE.KDictDisplayH
import PySem.Challenge.RW_whichstand_k03_whole_told_apart
set_option Elab.async false
set_option linter.all false
set_option maxRecDepth 100000
set_option maxHeartbeats 4000000
namespace EnT
open PySem PySem.Spec PyProof.Rows L2
theorem made (v : Value) (ob : Obj) (G : Heap → Prop) (B : Begins v ob G) :
    Meets (Builtin.«enumerate.__new__» ⟨[.type "enumerate", v], []⟩) (fun _ R s => G s.heap ∧
      R (.ok (.ret (.ref (s.heap.push ob).objs.size))) { s with heap := (s.heap.push ob).push { cls := .type "enumerate", data := .fields #[.none, .bool false, .ref s.heap.objs.size, rawInt 0, .none, .none] } }) := by
  refine .of_wp ?_
  intro pr w' A' R' sh hh
  obtain ⟨hp, gs, dr, tk, os⟩ := sh
  obtain ⟨g1, hh⟩ := hh
  have hsub' := sub_enumerate
  have it : ∀ {B1 : Around} {E1 : Value → Shared → Prop} {Q1 : Value → Shared → Prop}, Q1 (.ref hp.objs.size) ⟨hp.push ob, gs, dr, tk, os⟩ → wpAny (model pr w') B1 (pyIter v) Q1 E1 ⟨hp, gs, dr, tk, os⟩ := by
    intro B1 E1 Q1 q
    exact B.iter pr w' _ _ ⟨hp, gs, dr, tk, os⟩ _ g1 q
  wp_walk using it
  refine wpAny_stack_any (fun _ => wpAny_pure ?_)
  split
  · rename_i cc _ _ _ _ _
    cases (cc == Value.type "enumerate") <;> (wp_walk using it; exact ⟨_, rfl, hh⟩)
  · (wp_walk using it; exact ⟨_, rfl, hh⟩)

section
variable {prog : Program} {w : World} {A : Around} {E : Value → Shared → Prop} {s : Shared}
theorem begin1 {t : Addr} {its : Array Value} {Q : Value → Shared → Prop} (g1 : s.heap.IsTuple t its)
    (q : ∀ h', IsEnum h' (s.heap.objs.size + 1) s.heap.objs.size 0 .none → h'.IsTupleIter s.heap.objs.size t 0 → (∀ b o, s.heap.get? b = some o → h'.get? b = some o) →
      Q (.ref (s.heap.objs.size + 1)) { s with heap := h' }) : wpAny (model prog w) A (call (.type "enumerate") [.ref t]) Q E s := by
  refine callType_new F.called_enumerate (by decide) (F.typeCall_enumerate_1 _) (F.newCall_enumerate_1 _) (fun ob => F.args_object_init_2 ob _) F.entry_enumerate_new (made _ _ _ (begins_tuple t its)) ⟨g1, ?_⟩
  generalize eo : ({ cls := .type "tuple_iterator", data := .fields #[.ref t, .int 0 0] } : Obj) = io
  have fr : io.isFreed = false := by rw [← eo]; rfl
  have sz : (s.heap.push io).objs.size = s.heap.objs.size + 1 := Heap.size_push ..
  have en : IsEnum ((s.heap.push io).push { cls := .type "enumerate", data := .fields #[.none, .bool false, .ref s.heap.objs.size, rawInt 0, .none, .none] }) (s.heap.objs.size + 1) s.heap.objs.size 0 .none := by
    have z := Heap.get?_push_size (s.heap.push io) (o := { cls := .type "enumerate", data := .fields #[.none, .bool false, .ref s.heap.objs.size, rawInt 0, .none, .none] }) rfl
    rw [sz] at z
    exact z
  show _ ∧ _
  rw [sz]
  refine ⟨⟨_, en, rfl⟩, q _ en ?_ (fun b o e => Heap.get?_push_of_some _ (Heap.get?_push_of_some _ e))⟩
  exact ⟨io, Heap.get?_push_of_some _ (Heap.get?_push_size _ fr), by rw [← eo], by rw [← eo] <;> rfl⟩
end
/-- the tuple at a, each item in a new pair behind its place -/
def ItT (K : PySem.W.Frag) (a : Addr) : It where
  go i H := ∃ ys y, SqT K H a ys ∧ ys[i]? = some y
  yld i H v H' := ∃ T y, v = .ref T ∧ H T = none ∧ H' = upd H T (.tup [.int (i : Nat), y]) ∧ ∀ ys, SqT K H a ys → ys[i]? = some y
  stop i H := ∃ ys : List V, SqT K H a ys ∧ ys.length ≤ i
theorem cls_ne {h : Heap} {a b : Addr} {o u : Obj} (x : h.get? a = some o) (y : h.get? b = some u) (n : o.cls ≠ u.cls) : a ≠ b := by
  intro z
  rw [z, y] at x
  exact n (congrArg Obj.cls (Option.some.inj x)).symm
theorem turnT {P : Program} {w : World} {K : PySem.W.Frag} {elts : List Expr} {kk : Nat} {tpos : Pos} (a e it : Addr) :
    Turn P w K (.Tuple elts kk tpos) (ItT K a) [e, it] e (fun i h => (∃ old, IsEnum h e it ((i : Nat) : Int) old) ∧ h.IsTupleIter it a i ∧ e ≠ it) where
  mem := List.mem_cons_self
  obj := by
    rintro i h ⟨⟨old, he⟩, ⟨o, ho, hc, hd⟩, _⟩ b hb
    rcases List.mem_cons.mp hb with z | z
    · exact z ▸ ⟨_, he, fun v q => nomatch q⟩
    · rw [List.mem_singleton.mp z]
      exact ⟨o, ho, fun v q => by rw [hd] at q; cases q⟩
  keep := by
    rintro i h h' ⟨⟨old, he⟩, hi, hne⟩ k
    exact ⟨⟨old, k e List.mem_cons_self _ he⟩, hi.at (fun o q => k it (by simp) o q), hne⟩
  item := by
    rintro X rfl rfl rfl hcalm i pins s σ H E I hf ⟨⟨old, he⟩, hit, hne⟩ ⟨ys, y, hq, hy⟩
    obtain ⟨its, rv, tp, -⟩ := I.tuple hq
    have tp' : s.heap.IsTuple a its.toArray := tp
    obtain ⟨u, hu, ru⟩ := rv.get hy
    have hlt : i < its.toArray.size := by
      have := (List.getElem?_eq_some_iff.mp hu).1
      simpa using this
    obtain ⟨oa, ga, ca, -⟩ := id tp'
    obtain ⟨oi, gi, ci, -⟩ := id hit
    have a_it : a ≠ it := cls_ne ga gi (by rw [ca, ci]; decide)
    have e_a : e ≠ a := cls_ne he ga (by rw [ca]; show Value.type "enumerate" ≠ Value.type "tuple"; decide)
    have sz_e : e < s.heap.objs.size := Heap.lt_size he
    have sz_i : it < s.heap.objs.size := Heap.lt_size gi
    have D : Draws X.prog X.w X.A.in1 it [it, a] its.toArray.size (fun j v => its.toArray[j]? = some v) (fun j h => h.IsTupleIter it a j ∧ h.IsTuple a its.toArray) := Draws.tuple (A := X.A.in1) (show X.A.in1.handled = none from I.ok.hd hcalm) it a a_it its.toArray
    refine wpAny_pyNext_enum_itemD D he ⟨hit, tp'⟩ hlt hne (by simp [hne, e_a]) ?_
    intro x h' tk px ho hst hT hsz hk
    have ex : x = u := by
      have z : its[i]? = some x := by simpa using px
      rw [hu] at z
      exact (Option.some.inj z).symm
    subst ex
    refine ⟨_, rfl, wpAny_letOwnedTupleGo_enum (s := { s with heap := h', toks := tk + 1 }) ho ?_⟩
    intro h2 he2 sb
    have T2 : h2.get? s.heap.objs.size = some { cls := .type "tuple", data := .seq #[.int i tk, x] } := (sb.2 _ (Nat.ne_of_gt sz_e)).trans hT
    have new : ObjOk X.prog X.w (upd H s.heap.objs.size (.tup [.int (i : Nat), y])) h2 s.heap.objs.size (.tup [.int (i : Nat), y]) := by
      refine ⟨by show 2 ≤ sizeLine; decide, [.int i tk, x], .cons ⟨tk, rfl⟩ (.cons ru .nil), ?_⟩
      exact ⟨_, T2, rfl, _, rfl⟩
    have I1 := I.turnedNew (t' := tk + 1) (ch := [e, it]) (fun b ob hb q => by
      have b1 : b ≠ e := fun z => hb (by simp [z])
      have b2 : b ≠ it := fun z => hb (by simp [z])
      exact (sb.2 b b1).trans (hk b ob b1 b2 q)) hf (Nat.le_refl _) new
    refine ⟨.ref s.heap.objs.size, _, I1, rfl, ?_, ?_, ?_⟩
    · exact ⟨_, y, rfl, I.hok.fresh (Nat.le_refl _), rfl, fun zs hz => by rw [I.tuple_inj hz hq]; exact hy⟩
    · have e1 : ((i + 1 : Nat) : Int) = (i : Int) + 1 := by omega
      exact ⟨⟨x, by rw [e1]; exact he2⟩, hst.1.at (fun o q => (sb.2 it (Ne.symm hne)).trans q), hne⟩
    · intro b hb
      have lt : b < s.heap.objs.size := by
        rcases List.mem_cons.mp hb with z | z
        · rw [z]; exact sz_e
        · rw [List.mem_singleton.mp z]; exact sz_i
      rw [upd_ne (Nat.ne_of_lt lt)]
      exact (hf b hb).1
  done := by
    rintro X rfl rfl rfl hcalm i pins s σ H E I hf ⟨⟨old, he⟩, hit, hne⟩ ⟨ys, hq, hy⟩
    obtain ⟨its, rv, tp, -⟩ := I.tuple hq
    have tp' : s.heap.IsTuple a its.toArray := tp
    obtain ⟨f0, f1, f2, f3, f4, f5⟩ := hf it (by simp)
    have hle : its.toArray[i]? = none := by
      have := rv.length
      simp
      omega
    obtain ⟨oi, gi, ci, di⟩ := id hit
    have hT : s.TypeIs (.ref e) "enumerate" := ⟨_, he, rfl⟩
    unfold pyNext
    refine wpAny_bind (wpAny_attempt (wpAny_callSpecial?_slot (name := Str.ofString "__next__") hT F.slot_enumerate_next (wpAny_call_entry F.slot_enumerate_next hT F.entry_enumerate_next ?_ (F.args_enumerate_next_1 _))))
    show wpAny _ _ (field (.ref e) 2 >>= _) _ _ _
    refine wpAny_bind (wpAny_field he rfl (x := .ref it) rfl (wpAny_bind (wpAny_nextOf_tuple_end (I.ok.hd hcalm) hit tp' hle ?_)))
    rintro h' x eb ⟨o, ho, hc⟩
    refine wpAny_bind (wpAny_isInstance (T := "StopIteration") (b := true) ⟨o, ho, hc⟩ isSubtype_stop (wpAny_pure ?_))
    exact ⟨rfl, I.turned (t' := s.toks) (fun b o hb q => eb b o hb q) f0 f1 f3 f4 f5⟩
  self := by
    rintro A i s Q E ⟨⟨_, he⟩, _⟩ q
    exact wpAny_pyIter_enum he q
def iEnT (K : PySem.W.Frag) (ta : TA) : TI := fun σ H R => ta σ H fun vs H1 => ∃ a ys, vs = [.ref a] ∧ SqT K H1 a ys ∧ R (ItT K a) H1
theorem pi_enumT {X : Cx} {e : Expr} {ta : TA} {p pos tpos : Pos} {elts : List Expr} {kk : Nat} (hg : Gl X "enumerate") (hm : X.mg "enumerate" = none) (ha : PA X [e] ta) (hs : starEach [e] X.env = [(false, eval e X.env)] := by rfl) :
    PI X (.Tuple elts kk tpos) (.Call (.Name "enumerate" p) [e] [] pos) (iEnT X.K ta) := by
  constructor
  intro pins s σ H R I h
  refine Call_ (ld_blt I hg hm boot_enumerate (PyProof.Rows.callWith_type1 (thn (ha.run pos pins s σ H _ I h) ?_) hs rfl))
  rintro us s1 ⟨vs, H1, I1, r1, a, ys, rfl, hq, q⟩
  obtain ⟨u, rfl⟩ : ∃ u, us = [u] := by
    cases r1 with
    | cons r rr => cases rr; exact ⟨_, rfl⟩
  obtain rfl : u = Value.ref a := by
    cases r1 with
    | cons r rr => exact r
  obtain ⟨its, rv, tp, -⟩ := I1.tuple hq
  refine begin1 (show s1.heap.IsTuple a its.toArray from tp) ?_
  intro h' he hit hk
  refine wpAny_pyIter_enum he ?_
  have I2 : Inv X pins σ H1 { s1 with heap := h' } := I1.kept (t' := s1.toks) hk
  refine ⟨s1.heap.objs.size + 1, [s1.heap.objs.size + 1, s1.heap.objs.size], _, _, H1, rfl, I2, turnT a _ _, ⟨⟨.none, he⟩, hit, Nat.succ_ne_self _⟩, ?_, q⟩
  intro b hb
  have hle : s1.heap.objs.size ≤ b := by
    rcases List.mem_cons.mp hb with z | z
    · rw [z]; exact Nat.le_succ _
    · rw [List.mem_singleton.mp z]; exact Nat.le_refl _
  exact I1.fpOk hle (I1.hok.fresh hle)
/-- the loop over it -/
theorem for_enT {K : PySem.W.Frag} {a : Addr} {xs : List V} {g : TG} {tb : TS} {D : Ends} {σ : L2.St} {H : Hp} (Pv : Nat → L2.St → Hp → Prop) (h0 : Pv 0 σ H) (hl : ∀ i σ H, i ≤ xs.length → Pv i σ H → SqT K H a xs)
    (hs : ∀ i x T σ H, xs[i]? = some x → Pv i σ H → H T = none → g (.ref T) σ (upd H T (.tup [.int (i : Nat), x])) fun σ1 H1 => tb { D with nx := Pv (i + 1), ct := Pv (i + 1), bk := D.nx } σ1 H1)
    (hd : ∀ σ H, Pv xs.length σ H → D.nx σ H) :
    ∃ W : Nat → Nat → L2.St → Hp → Prop, (∃ m, W 0 m σ H) ∧ ∀ i m σ H, W i m σ H →
      ((ItT K a).stop i H ∧ D.nx σ H) ∨ ((ItT K a).go i H ∧ ∃ N : L2.St → Hp → Prop, (∀ σ' H', N σ' H' → ∃ m', m' < m ∧ W (i + 1) m' σ' H') ∧ ∀ x H', (ItT K a).yld i H x H' → g x σ H' fun σ2 H2 => tb { D with nx := N, ct := N, bk := D.nx } σ2 H2) := by
  refine ⟨fun i m σ H => m + i = xs.length ∧ Pv i σ H, ⟨xs.length, rfl, h0⟩, ?_⟩
  intro i m σ H
  rintro ⟨em, pv⟩
  have q := hl i σ H (by omega) pv
  rcases Nat.lt_or_ge i xs.length with lt | ge
  · right
    refine ⟨⟨xs, _, q, List.getElem?_eq_getElem lt⟩, Pv (i + 1), fun σ1 H1 p1 => ⟨m - 1, by omega, by omega, p1⟩, ?_⟩
    rintro x H1 ⟨T, y, rfl, fT, rfl, hy⟩
    exact hs i y T σ H (hy xs q) pv fT
  · left
    have ei : i = xs.length := by omega
    subst ei
    exact ⟨⟨xs, q, Nat.le_refl _⟩, hd σ H pv⟩
end EnT
namespace WS
open PySem PySem.Spec PyProof.Rows L2
/-- a def of the module: what it promises, where it stands -/
structure DefK (P : Program) (w : World) (K : PySem.W.Frag) (mg : Str → Option Value) (base : Heap) (CX : CXT) (k : Nat) (x : Str) (ps : List Str) (sp : Sp) : Prop where
  ex : ∃ f fd, FnOk P w K mg base CX k f fd ps sp ∧ mg x = some (.ref f) ∧ PySem.W.keepIn K (.ref f) = true ∧ Binds K fd ps []
theorem DefK.imp {P : Program} {w : World} {K : PySem.W.Frag} {mg : Str → Option Value} {base : Heap} {CX : CXT} {k : Nat} {x : Str} {ps : List Str} {sp sp' : Sp} (G : DefK P w K mg base CX k x ps sp)
    (h : ∀ vs H Q E, sp' vs H Q E → sp vs H Q E) : DefK P w K mg base CX k x ps sp' := by
  obtain ⟨f, fd, a, b, c, d⟩ := G.ex
  exact ⟨f, fd, a.imp h, b, c, d⟩
theorem DefK.mono {P : Program} {w : World} {K : PySem.W.Frag} {mg : Str → Option Value} {base : Heap} {CX : CXT} {k k' : Nat} {x : Str} {ps : List Str} {sp : Sp} (G : DefK P w K mg base CX k x ps sp) (h : k ≤ k') : DefK P w K mg base CX k' x ps sp := by
  obtain ⟨f, fd, a, b, c, d⟩ := G.ex
  exact ⟨f, fd, a.mono h, b, c, d⟩
section
variable {X : Cx} {k : Nat} {x : Str} {ps : List Str} {sp : Sp} {p pos : Pos} {e : Expr} {es : List Expr} {t : TA} {ta : TE}
theorem pe_def (G : DefK X.prog X.w X.K X.mg X.base CX0 k x ps sp) (hr : Room k X.A) (hg : Gl X x) (ha : PA X (e :: es) t) (hdb : (x == ("__debug__" : Str)) = false := by decide)
    (he : starEach (e :: es) X.env = (false, eval e X.env) :: starEach es X.env := by rfl) (hpl : (backTo pos (starEach es X.env)).any (·.1) = false := by rfl) :
    PE X (.Call (.Name x p) (e :: es) [] pos) (tCall sp [] E0 t) := by
  obtain ⟨f, fd, a, b, c, d⟩ := G.ex
  exact pe_call a hr hg b c d .nil pass0 ha hdb he hpl
/-- a statement, then the rest, behind a word of one's own -/
def tMid (t u : TS) : TS := fun D σ H => ∃ W : L2.St → Hp → Prop, t { D with nx := W } σ H ∧ ∀ σ1 H1, W σ1 H1 → u D σ1 H1
theorem pss_mid {st : Stmt} {more : List Stmt} {t u : TS} (h1 : PS X st t) (h2 : PSs X more u) : PSs X (st :: more) (tMid t u) := by
  constructor
  intro pins s σ H D I
  rintro ⟨W, a, b⟩
  refine wpAny_execs_cons (thn (h1.run pins s σ H { D with nx := W } I a) ?_)
  intro f s1 q
  cases f
  case next =>
    obtain ⟨σ1, H1, I1, z⟩ := q
    exact h2.run pins s1 σ1 H1 D I1 (b _ _ z)
  all_goals exact q
theorem pe_gI {i : Int} {tk : Tok} (hg : Gl X x) (hm : X.mg x = some (.int i tk)) (hd : (x == ("__debug__" : Str)) = false := by decide) : PE X (.Name x pos) (tC (.int i)) := pe_glob hg hm ⟨tk, rfl⟩ hd
theorem pe_gR {a : Addr} (hg : Gl X x) (hm : X.mg x = some (.ref a)) (hd : (x == ("__debug__" : Str)) = false := by decide) : PE X (.Name x pos) (tC (.ref a)) := pe_glob hg hm rfl hd
/-- a property of the class at C -/
structure PropK (P : Program) (w : World) (K : PySem.W.Frag) (mg : Str → Option Value) (base : Heap) (k : Nat) (C : Addr) (f : Str) (sp : Sp) : Prop where
  cl : Cls K C
  ex : ∃ pa g fd, PropOf K C f pa g ∧ FnOk P w K mg base CX0 k g fd ["self"] sp ∧ Binds K fd ["self"] []
theorem pe_propM {C : Addr} {f : Str} (G : PropK X.prog X.w X.K X.mg X.base k C f sp) (hr : Room (k + 1) X.A) (he : PE X e ta) (hab : attributeBase e f X.env (eval e X.env) = eval e X.env := by rfl) :
    PE X (.Attribute e f pos) (tProp C sp [] E0 ta) := by
  obtain ⟨pa, g, fd, a, b, c⟩ := G.ex
  exact pe_prop he G.cl a b hr c .nil pass0 hab
/-- an instance made -/
structure MkK (P : Program) (w : World) (K : PySem.W.Frag) (mg : Str → Option Value) (base : Heap) (CX : CXT) (k : Nat) (C : Addr) (x : Str) (ps : List Str) (sp : Sp) : Prop where
  gl : mg x = some (.ref C)
  ex : ∃ f fd, Mk K C f ∧ FnOk P w K mg base CX k f fd ps sp ∧ Binds K fd ps []
theorem pe_mkM {C : Addr} (G : MkK X.prog X.w X.K X.mg X.base CX0 k C x ps sp) (hr : Room (k + 1) X.A) (hg : Gl X x) (ha : PA X (e :: es) t) (hdb : (x == ("__debug__" : Str)) = false := by decide)
    (he : starEach (e :: es) X.env = (false, eval e X.env) :: starEach es X.env := by rfl) (hpl : (backTo pos (starEach es X.env)).any (·.1) = false := by rfl) :
    PE X (.Call (.Name x p) (e :: es) [] pos) (tMake C sp [] E0 t) := by
  obtain ⟨f, fd, a, b, c⟩ := G.ex
  exact pe_make a b hr hg G.gl c .nil pass0 ha hdb he hpl
/-- len of an instance -/
structure LenK (P : Program) (w : World) (K : PySem.W.Frag) (mg : Str → Option Value) (base : Heap) (k : Nat) (C : Addr) (sp : Sp) : Prop where
  ex : ∃ f fd, PySem.W.findIn K (.ref C) "__len__" = some (some (.ref f)) ∧ PySem.W.isFn K (.ref f) = true ∧ FnOk P w K mg base CX0 k f fd ["self"] sp ∧ Binds K fd ["self"] []
def rLenO (C : Addr) (sp : Sp) : List V → Hp → VK → Prop := fun xs H Q => ∃ a dx fs, xs = [.ref a] ∧ H a = some (.ins C dx fs) ∧ sp [.ref a] H (fun v H' => ∃ n : Nat, v = .int n ∧ n < 2 ^ 63 ∧ Q (.int n) H') E0
theorem call_lenO {C : Addr} (G : LenK X.prog X.w X.K X.mg X.base k C sp) (hr : Room (k + 1) X.A) : CallR X (.builtin "len") (rLenO C sp) := by
  intro pins s σ H xs us Q I r hh
  obtain ⟨a, dx, fs, rfl, ea, q⟩ := hh
  obtain ⟨u, rfl⟩ : ∃ u, us = [u] := by
    cases r with
    | cons r rr => cases rr; exact ⟨_, rfl⟩
  obtain rfl : u = Value.ref a := by
    cases r with
    | cons r rr => exact r
  obtain ⟨f, fd, h1, h2, h3, h4⟩ := G.ex
  obtain ⟨mA, O, _, _, _, _⟩ := ins_get I.hok ea
  obtain ⟨od, J, _⟩ := O.look
  obtain ⟨m, F⟩ := I.fr
  refine PySem.W.len_K F I.mod.kin J h1 h2 ?_
  have hl : ([Value.ref a] ++ ([] : List Value)).length = (["self"] : List Str).length := rfl
  refine wpAny_call (codeAny_mono (h3.run X.A.in1 X.stack s H ⟨[.ref a], []⟩ [.ref a] [.ref a] _ E0 hr.in1 I.env0.in1 (h4 s [.ref a] I.kIn hl) (.cons rfl .nil) q) fun r s' hq => ?_)
  cases r with
  | error er => exact False.elim hq
  | ok fl =>
    cases fl with
    | ret u =>
      obtain ⟨v, H', I3, rv, n, rfl, hn, q3⟩ := I.after hq
      obtain ⟨t, rfl⟩ := rv
      refine ⟨⟨Int.natCast_nonneg n, by omega⟩, .int n, H', I3.tok _, ⟨_, rfl⟩, q3⟩
    | next => exact False.elim hq
    | brk => exact False.elim hq
    | cont => exact False.elim hq
theorem pe_lenO {C : Addr} (G : LenK X.prog X.w X.K X.mg X.base k C sp) (hr : Room (k + 1) X.A) (hg : Gl X "len") (hm : X.mg "len" = none) (he : PE X e ta)
    (hst : starEach [e] X.env = [(false, eval e X.env)] := by rfl) : PE X (.Call (.Name "len" p) [e] [] pos) (tCB (rLenO C sp) (tCons ta tNil)) :=
  pe_callB (call_lenO G hr) hg hm boot_len (pa_cons he pa_nil hst) (by decide) (by decide) hst (by rfl)
end
/-- the built-ins' names that the program has not taken for itself -/
structure Blt (mg : Str → Option Value) : Prop where
  n_set : mg "set" = none
  n_len : mg "len" = none
  n_isinstance : mg "isinstance" = none
  n_int : mg "int" = none
  n_bool : mg "bool" = none
  n_tuple : mg "tuple" = none
  n_list : mg "list" = none
  n_str : mg "str" = none
  n_range : mg "range" = none
  n_enumerate : mg "enumerate" = none
  n_max : mg "max" = none
  n_min : mg "min" = none
  n_all : mg "all" = none
  n_any : mg "any" = none
  n_sorted : mg "sorted" = none
  n_sum : mg "sum" = none
  n_zip : mg "zip" = none
/-! ### values of any kind, and their types -/
inductive AnyV (K : PySem.W.Frag) (H : Hp) : V → String → Prop where
  | non : AnyV K H .non "NoneType"
  | bl (b : Bool) : AnyV K H (.bl b) "bool"
  | int (i : Int) : AnyV K H (.int i) "int"
  | str (x : Str) : AnyV K H (.str x) "str"
  | lst {a : Addr} {xs : List V} (h : SqL K H a xs) : AnyV K H (.ref a) "list"
  | tup {a : Addr} {xs : List V} (h : SqT K H a xs) : AnyV K H (.ref a) "tuple"
  | dct {a : Addr} {kvs : List (Key × V)} (h : H a = some (.dK kvs)) : AnyV K H (.ref a) "dict"
theorem AnyV.ty {K : PySem.W.Frag} {H : Hp} {v : V} {t : String} (x : AnyV K H v t) : TyX K H v (.type t) := by
  cases x with
  | non => exact .base .non
  | bl b => exact .base (.bl b)
  | int i => exact .base (.int i)
  | str z => exact .base (.str z)
  | lst h =>
    rcases h with (h | ⟨o, h⟩) | ⟨o, its, n, h1, h2, _⟩
    · exact .base (.lst h)
    · exact .base (.frz h)
    · exact .kList h1 h2
  | tup h =>
    rcases h with (h | ⟨o, h⟩) | ⟨o, its, n, h1, h2, _⟩
    · exact .base (.tup h)
    · exact .fTuple h
    · exact .kTuple h1 h2
  | dct h => exact .base (.dK h)
theorem seqT {K : PySem.W.Frag} {H H' : Hp} {a : Addr} {xs : List V} (s : Same H H') (h : SqT K H a xs) : SqT K H' a xs := by
  rcases h with (h | ⟨o, h⟩) | h
  · exact .inl (.inl (s _ _ h))
  · exact .inl (.inr ⟨o, s _ _ h⟩)
  · exact .inr h
theorem AnyV.same {K : PySem.W.Frag} {H H' : Hp} {v : V} {t : String} (x : AnyV K H v t) (s : Same H H') : AnyV K H' v t := by
  cases x with
  | non => exact .non
  | bl b => exact .bl b
  | int i => exact .int i
  | str z => exact .str z
  | lst h => exact .lst (s.seq h)
  | tup h => exact .tup (seqT s h)
  | dct h => exact .dct (s _ _ h)
theorem same_new {H : Hp} {p : Addr} (h : H p = none) (o : HO) : Same H (upd H p o) := fun b u q => by rw [upd_ne (ne_of_none q h)]; exact q
/-- isinstance of such a value: its answer by the types' names -/
theorem kit_any {K : PySem.W.Frag} {t c : String} {b : Bool} (h : kitB t c = some b) : PySem.W.kitOne K (.type t) (.type c) = some b := kit_ty h
/-! ### the rules that speak of the written part, by its name -/
def rLenS (K : PySem.W.Frag) : List V → Hp → VK → Prop := fun xs H Q => ∃ p ys, xs = [.ref p] ∧ (SqL K H p ys ∨ SqT K H p ys) ∧ Q (.int ys.length) H
def rListOf (K : PySem.W.Frag) : List V → Hp → VK → Prop := fun xs H Q => ∃ p ys, xs = [.ref p] ∧ (SqL K H p ys ∨ SqT K H p ys) ∧ ∀ l, H l = none → Q (.ref l) (upd H l (.lst ys))
def rTupOf (K : PySem.W.Frag) : List V → Hp → VK → Prop := fun xs H Q => ∃ p ys, xs = [.ref p] ∧ ((SqL K H p ys ∧ ∀ l, H l = none → Q (.ref l) (upd H l (.tup ys))) ∨ (SqT K H p ys ∧ Q (.ref p) H))
def rInt1 : List V → Hp → VK → Prop := fun xs H Q => (∃ i, xs = [V.int i] ∧ Q (V.int i) H) ∨ ∃ k, xs = [V.bl k] ∧ Q (V.int (if k = true then 1 else 0)) H
section
variable {X : Cx} (K : PySem.W.Frag)
theorem k_len (e : X.K = K := by rfl) : CallR X (.builtin "len") (rLenS K) := by subst e; exact call_len_seq
theorem k_listOf (e : X.K = K := by rfl) : CallR X (.type "list") (rListOf K) := by subst e; exact call_list_of
theorem k_tupOf (e : X.K = K := by rfl) : CallR X (.type "tuple") (rTupOf K) := by subst e; exact call_tuple_of
theorem k_int1 : CallR X (.type "int") rInt1 := call_int1
theorem k_isi (e : X.K = K := by rfl) : CallR X (.builtin "isinstance") (rIsi K) := by subst e; exact call_isi
theorem k_isiT (e : X.K = K := by rfl) : CallR X (.builtin "isinstance") (rIsiT K) := by subst e; exact call_isiT
theorem k_ixL (e : X.K = K := by rfl) : IxR X (rIxL K) := by subst e; exact ix_list
theorem k_ixT (e : X.K = K := by rfl) : IxR X (rIxT K) := by subst e; exact ix_tup
theorem k_ixQ (e : X.K = K := by rfl) : IxR X (rIx K) := by subst e; exact ix_seq
theorem k_slL (e : X.K = K := by rfl) : SlR X (rSlL K) := by subst e; exact sl_list
theorem k_slT (e : X.K = K := by rfl) : SlR X (rSlA K) := by subst e; exact sl_tupA
theorem k_catT (e : X.K = K := by rfl) : OpR X (binaryOp .Add) (rCatA K) := by subst e; exact op_catA
theorem k_eqD (hu : X.A.units + 64 < cLine) (e : X.K = K := by rfl) : OpR X (compareOp .Eq) (rEqD K) := by subst e; exact op_eqD hu
theorem k_neD (hu : X.A.units + 64 < cLine) (e : X.K = K := by rfl) : OpR X (compareOp .NotEq) (rNeD K) := by subst e; exact op_neD hu
theorem k_in (e : X.K = K := by rfl) : OpR X (compareOp .In) (rIn K false) := by subst e; exact op_in_seq
theorem k_notIn (e : X.K = K := by rfl) : OpR X (compareOp .NotIn) (rIn K true) := by subst e; exact op_notIn_seq
theorem k_all (hc : X.calm = true) (e : X.K = K := by rfl) : CallR X (.builtin "all") (rAll K) := by subst e; exact cr_all hc
theorem k_any (hc : X.calm = true) (e : X.K = K := by rfl) : CallR X (.builtin "any") (rAny K) := by subst e; exact cr_any hc
theorem k_sum (hc : X.calm = true) (e : X.K = K := by rfl) : CallR X (.builtin "sum") (rSum K) := by subst e; exact cr_sum hc
theorem k_max (hc : X.calm = true) (e : X.K = K := by rfl) : CallR X (.builtin "max") (rMax K) := by subst e; exact cr_max hc
theorem k_min (hc : X.calm = true) (e : X.K = K := by rfl) : CallR X (.builtin "min") (rMin K) := by subst e; exact cr_min hc
variable {tg l : Expr} {tl : TE}
theorem k_pil (hl : PE X l tl) (e : X.K = K := by rfl) : PI X tg l (iList K tl) := by subst e; exact pi_list hl
theorem k_pit (hl : PE X l tl) (e : X.K = K := by rfl) : PI X tg l (iTup K tl) := by subst e; exact pi_tup hl
theorem k_tgs {es : List Expr} {k : Nat} {t : TGs} {n : Nat} {pos : Pos} (hc : X.calm = true) (h : PGs X es t) (hn : (assignEach es X.env).length = n := by rfl) (hst : (assignEach es X.env).findIdx? (·.1) = none := by rfl) (e : X.K = K := by rfl) :
    PG X (.Tuple es k pos) (gTup K n t) := by subst e; exact pg_tup hc h hn hst
end
end WS
namespace WS
open PySem L2
/-! ### data -/
mutual
theorem dp_mono {K : PySem.W.Frag} {H H' : Hp} (hL : ∀ a xs, SqL K H a xs → SqL K H' a xs) (hT : ∀ a xs, SqT K H a xs → SqT K H' a xs) : ∀ {v : V} {d : PyData}, Dp K H v d → Dp K H' v d
  | _, _, .non => .non
  | _, _, .bl b => .bl b
  | _, _, .int i => .int i
  | _, _, .str x => .str x
  | _, _, .lst s a => .lst (hL _ _ s) (dps_mono hL hT a)
  | _, _, .tup s a => .tup (hT _ _ s) (dps_mono hL hT a)
theorem dps_mono {K : PySem.W.Frag} {H H' : Hp} (hL : ∀ a xs, SqL K H a xs → SqL K H' a xs) (hT : ∀ a xs, SqT K H a xs → SqT K H' a xs) : ∀ {vs : List V} {ds : List PyData}, DpAll K H vs ds → DpAll K H' vs ds
  | _, _, .nil => .nil
  | _, _, .cons h t => .cons (dp_mono hL hT h) (dps_mono hL hT t)
end
theorem dp_same {K : PySem.W.Frag} {H H' : Hp} (s : Same H H') {v : V} {d : PyData} (h : Dp K H v d) : Dp K H' v d := dp_mono (fun _ _ x => s.seq x) (fun _ _ x => seqT s x) h
theorem dps_same {K : PySem.W.Frag} {H H' : Hp} (s : Same H H') {vs : List V} {ds : List PyData} (h : DpAll K H vs ds) : DpAll K H' vs ds := dps_mono (fun _ _ x => s.seq x) (fun _ _ x => seqT s x) h
mutual
/-- no lists within -/
def noL : PyData → Bool
  | .list _ => false
  | .dict _ => false
  | .tuple ds => noLs ds
  | _ => true
def noLs : List PyData → Bool
  | [] => true
  | d :: ds => noL d && noLs ds
end
mutual
theorem dp_monoT {K : PySem.W.Frag} {H H' : Hp} (hT : ∀ a xs, SqT K H a xs → SqT K H' a xs) : ∀ {v : V} {d : PyData}, Dp K H v d → noL d = true → Dp K H' v d
  | _, _, .non, _ => .non
  | _, _, .bl b, _ => .bl b
  | _, _, .int i, _ => .int i
  | _, _, .str x, _ => .str x
  | _, _, .lst s a, n => by simp [noL] at n
  | _, _, .tup s a, n => .tup (hT _ _ s) (dps_monoT hT a (by simpa [noL] using n))
theorem dps_monoT {K : PySem.W.Frag} {H H' : Hp} (hT : ∀ a xs, SqT K H a xs → SqT K H' a xs) : ∀ {vs : List V} {ds : List PyData}, DpAll K H vs ds → noLs ds = true → DpAll K H' vs ds
  | _, _, .nil, _ => .nil
  | _, _, .cons h t, n => by
    exact .cons (dp_monoT hT h (by simp [noLs] at n; exact n.1)) (dps_monoT hT t (by simp [noLs] at n; exact n.2))
end
theorem noLs_of : ∀ {ds : List PyData}, (∀ d ∈ ds, noL d = true) → noLs ds = true
  | [], _ => rfl
  | d :: ds, h => by
    have e := noLs_of (ds := ds) fun x hx => h x (List.mem_cons_of_mem _ hx)
    simp [noLs, h d List.mem_cons_self, e]
theorem dp_tup {K : PySem.W.Frag} {H : Hp} {v : V} {ds : List PyData} (h : Dp K H v (.tuple ds)) : ∃ a xs, v = .ref a ∧ SqT K H a xs ∧ DpAll K H xs ds := by
  cases h with
  | tup s a => exact ⟨_, _, rfl, s, a⟩
theorem dp_lst {K : PySem.W.Frag} {H : Hp} {v : V} {ds : List PyData} (h : Dp K H v (.list ds)) : ∃ a xs, v = .ref a ∧ SqL K H a xs ∧ DpAll K H xs ds := by
  cases h with
  | lst s a => exact ⟨_, _, rfl, s, a⟩
theorem dp_non {K : PySem.W.Frag} {H : Hp} {v : V} (h : Dp K H v .none) : v = .non := by
  cases h
  rfl
theorem dp_int {K : PySem.W.Frag} {H : Hp} {v : V} {i : Int} (h : Dp K H v (.int i)) : v = .int i := by
  cases h
  rfl
theorem dps_len {K : PySem.W.Frag} {H : Hp} : ∀ {vs : List V} {ds : List PyData}, DpAll K H vs ds → vs.length = ds.length
  | _, _, .nil => rfl
  | _, _, .cons _ t => congrArg (· + 1) (dps_len t)
theorem dps_get {K : PySem.W.Frag} {H : Hp} : ∀ {vs : List V} {ds : List PyData} {i : Nat} {d : PyData}, DpAll K H vs ds → ds[i]? = some d → ∃ x, vs[i]? = some x ∧ Dp K H x d
  | _, _, _, _, .nil, e => by simp at e
  | _, _, 0, _, .cons h _, e => by
    have e' : _ = _ := Option.some.inj e
    subst e'
    exact ⟨_, rfl, h⟩
  | _, _, i + 1, d, .cons _ t, e => dps_get (i := i) t (by simpa using e)
theorem dps_getV {K : PySem.W.Frag} {H : Hp} : ∀ {vs : List V} {ds : List PyData} {i : Nat} {x : V}, DpAll K H vs ds → vs[i]? = some x → ∃ d, ds[i]? = some d ∧ Dp K H x d
  | _, _, _, _, .nil, e => by simp at e
  | _, _, 0, _, .cons h _, e => by
    have e' : _ = _ := Option.some.inj e
    subst e'
    exact ⟨_, rfl, h⟩
  | _, _, i + 1, d, .cons _ t, e => dps_getV (i := i) t (by simpa using e)
theorem dps_snoc {K : PySem.W.Frag} {H : Hp} : ∀ {vs : List V} {ds : List PyData} {x : V} {d : PyData}, DpAll K H vs ds → Dp K H x d → DpAll K H (vs ++ [x]) (ds ++ [d])
  | _, _, _, _, .nil, h => .cons h .nil
  | _, _, _, _, .cons h t, h' => .cons h (dps_snoc t h')
theorem dps_ints {K : PySem.W.Frag} {H : Hp} : ∀ (ns : List Int), DpAll K H (ns.map V.int) (ns.map PyData.int)
  | [] => .nil
  | n :: r => .cons (.int n) (dps_ints r)
theorem dps_intsV {K : PySem.W.Frag} {H : Hp} : ∀ {ns : List Int} {vs : List V}, DpAll K H vs (ns.map PyData.int) → vs = ns.map V.int
  | [], _, h => by cases h; rfl
  | n :: r, _, h => by
    cases h with
    | cons h1 h2 => rw [dp_int h1, dps_intsV h2]; rfl
theorem dp_any {K : PySem.W.Frag} {H : Hp} {v : V} {d : PyData} (h : Dp K H v d) : ∃ t, AnyV K H v t := by
  cases h with
  | non => exact ⟨_, .non⟩
  | bl b => exact ⟨_, .bl b⟩
  | int i => exact ⟨_, .int i⟩
  | str x => exact ⟨_, .str x⟩
  | lst s _ => exact ⟨_, .lst s⟩
  | tup s _ => exact ⟨_, .tup s⟩
/-! ### tables -/
/-- a step: where it leads and what it writes -/
abbrev Stp := Option (Nat × Nat)
abbrev Tab := List (List Stp)
def stepD : Stp → PyData
  | none => .none
  | some (n, w) => .tuple [.int (n : Nat), .int (w : Nat)]
def rowD (r : List Stp) : PyData := .tuple (r.map stepD)
def tabD (t : Tab) : PyData := .tuple (t.map rowD)
structure Good (t : Tab) (m : Nat) : Prop where
  lo : 1 ≤ t.length
  hi : t.length ≤ 6
  lets : m = 2 ∨ m = 3
  rows : ∀ r ∈ t, r.length = m
  steps : ∀ r ∈ t, ∀ n w, some (n, w) ∈ r → n < t.length ∧ w < 4
theorem noL_step (s : Stp) : noL (stepD s) = true := by
  cases s with
  | none => rfl
  | some p => obtain ⟨n, w⟩ := p; rfl
theorem noL_row (r : List Stp) : noL (rowD r) = true := by
  unfold rowD
  show noLs (r.map stepD) = true
  refine noLs_of fun d hd => ?_
  obtain ⟨s, _, rfl⟩ := List.mem_map.mp hd
  exact noL_step s
theorem noL_tab (t : Tab) : noL (tabD t) = true := by
  unfold tabD
  show noLs (t.map rowD) = true
  refine noLs_of fun d hd => ?_
  obtain ⟨s, _, rfl⟩ := List.mem_map.mp hd
  exact noL_row s
/-- a row of letters -/
def lettersD (r : List Nat) : PyData := .tuple (r.map fun (c : Nat) => PyData.int (c : Int))
theorem noL_letters (r : List Nat) : noL (lettersD r) = true := by
  unfold lettersD
  show noLs (r.map _) = true
  refine noLs_of fun d hd => ?_
  obtain ⟨s, _, rfl⟩ := List.mem_map.mp hd
  rfl
/-! ### the source of draws: the list h of a state, the list l of the cells, and an index -/
structure Src (H : Hp) (h l : Addr) : Prop where
  ne : h ≠ l
  ex : ∃ (st ix : Int) (cells : List Int), H h = some (.lst [.int st, .ref l, .int ix]) ∧ H l = some (.lst (cells.map V.int)) ∧ cells.length ≤ 63 ∧ 0 ≤ st ∧ st < 2147483647
/-- all that stood beside the source stands -/
def Keep (h l : Addr) (H H' : Hp) : Prop := ∀ b o, b ≠ h → b ≠ l → H b = some o → H' b = some o
theorem Keep.refl {h l : Addr} (H : Hp) : Keep h l H H := fun _ _ _ _ e => e
theorem Keep.trans {h l : Addr} {H H1 H2 : Hp} (a : Keep h l H H1) (b : Keep h l H1 H2) : Keep h l H H2 := fun c o n1 n2 e => b c o n1 n2 (a c o n1 n2 e)
theorem Keep.of {h l : Addr} {H H' : Hp} (s : Same H H') : Keep h l H H' := fun c o _ _ e => s c o e
theorem Src.same {H H' : Hp} {h l : Addr} (s : Src H h l) (e : Same H H') : Src H' h l := by
  obtain ⟨ne, st, ix, cs, a, b, c⟩ := s
  exact ⟨ne, st, ix, cs, e _ _ a, e _ _ b, c⟩
theorem Src.neT {H : Hp} {h l a : Addr} {xs : List V} (s : Src H h l) (e : Rd H a (.tup xs)) : a ≠ h ∧ a ≠ l := by
  obtain ⟨ne, st, ix, cs, e1, e2, _⟩ := s
  rcases e with e | ⟨o, e⟩
  · exact ⟨ne_of e e1 (by intro z; cases z), ne_of e e2 (by intro z; cases z)⟩
  · exact ⟨ne_of e e1 (by intro z; cases z), ne_of e e2 (by intro z; cases z)⟩
theorem Src.keepT {K : PySem.W.Frag} {H H' : Hp} {h l a : Addr} {xs : List V} (s : Src H h l) (k : Keep h l H H') (e : SqT K H a xs) : SqT K H' a xs := by
  rcases e with e | e
  · obtain ⟨n1, n2⟩ := s.neT e
    rcases e with e | ⟨o, e⟩
    · exact .inl (.inl (k _ _ n1 n2 e))
    · exact .inl (.inr ⟨o, k _ _ n1 n2 e⟩)
  · exact .inr e
theorem Src.keepD {K : PySem.W.Frag} {H H' : Hp} {h l : Addr} {v : V} {d : PyData} (s : Src H h l) (k : Keep h l H H') (e : Dp K H v d) (n : noL d = true) : Dp K H' v d := dp_monoT (fun _ _ x => s.keepT k x) e n
theorem Src.keepDs {K : PySem.W.Frag} {H H' : Hp} {h l : Addr} {vs : List V} {ds : List PyData} (s : Src H h l) (k : Keep h l H H') (e : DpAll K H vs ds) (n : noLs ds = true) : DpAll K H' vs ds := dps_monoT (fun _ _ x => s.keepT k x) e n
/-- what was new beside the source -/
theorem Src.neN {H : Hp} {h l a : Addr} (s : Src H h l) (e : H a = none) : a ≠ h ∧ a ≠ l := by
  obtain ⟨ne, st, ix, cs, e1, e2, _⟩ := s
  exact ⟨(ne_of_none e1 e).symm, (ne_of_none e2 e).symm⟩
theorem ixN_in {n : Nat} {i : Int} (h0 : 0 ≤ i) (h1 : i < (n : Int)) : ixN n i = some i.toNat := by
  unfold ixN
  rw [if_pos h0, if_pos h1]
theorem atI_at {α : Type} {xs : List α} {i : Int} (h0 : 0 ≤ i) (h1 : i < (xs.length : Int)) : ∃ c, atI xs i = some c ∧ xs[i.toNat]? = some c ∧ c ∈ xs := by
  have hk : i.toNat < xs.length := by omega
  refine ⟨xs[i.toNat], ?_, List.getElem?_eq_getElem hk, List.getElem_mem hk⟩
  unfold atI
  rw [ixN_in h0 h1]
  exact List.getElem?_eq_getElem hk
theorem atI_int {ns : List Int} {i : Int} (h0 : 0 ≤ i) (h1 : i < (ns.length : Int)) : ∃ c, atI (ns.map V.int) i = some (.int c) ∧ c ∈ ns := by
  obtain ⟨x, e, _, m⟩ := atI_at (xs := ns.map V.int) h0 (by rw [List.length_map]; exact h1)
  obtain ⟨c, hc, rfl⟩ := List.mem_map.mp m
  exact ⟨c, e, hc⟩
theorem Src.upd {H : Hp} {h l a : Addr} {o : HO} (s : Src H h l) (n1 : a ≠ h) (n2 : a ≠ l) : Src (upd H a o) h l := by
  obtain ⟨ne, st, ix, cs, e1, e2, r⟩ := s
  exact ⟨ne, st, ix, cs, by rw [upd_ne n1.symm]; exact e1, by rw [upd_ne n2.symm]; exact e2, r⟩
theorem Keep.free {h l a : Addr} {H H' : Hp} (k : Keep h l H H') (n1 : a ≠ h) (n2 : a ≠ l) (e : H' a = none) : H a = none := by
  cases q : H a with
  | none => rfl
  | some o =>
    rw [k a o n1 n2 q] at e
    cases e
theorem Keep.upd {h l a : Addr} {H H' : Hp} {o : HO} (k : Keep h l H H') (e : H a = none) : Keep h l H (upd H' a o) := fun b u n1 n2 q => by
  rw [upd_ne (ne_of_none q e)]
  exact k b u n1 n2 q
/-- tuples stand where a list is written anew -/
theorem seqT_upd {K : PySem.W.Frag} {H : Hp} {p a : Addr} {zs xs : List V} {o : HO} (hp : H p = some (.lst zs)) (h : SqT K H a xs) : SqT K (upd H p o) a xs := by
  rcases h with (h | ⟨u, h⟩) | h
  · exact .inl (.inl (by rw [upd_ne (ne_of h hp (by intro z; cases z))]; exact h))
  · exact .inl (.inr ⟨u, by rw [upd_ne (ne_of h hp (by intro z; cases z))]; exact h⟩)
  · exact .inr h
theorem dp_upd {K : PySem.W.Frag} {H : Hp} {p : Addr} {zs : List V} {o : HO} (hp : H p = some (.lst zs)) {v : V} {d : PyData} (h : Dp K H v d) (n : noL d = true) : Dp K (upd H p o) v d := dp_monoT (fun _ _ x => seqT_upd hp x) h n
theorem dps_upd {K : PySem.W.Frag} {H : Hp} {p : Addr} {zs : List V} {o : HO} (hp : H p = some (.lst zs)) {v : List V} {d : List PyData} (h : DpAll K H v d) (n : noLs d = true) : DpAll K (upd H p o) v d := dps_monoT (fun _ _ x => seqT_upd hp x) h n
theorem noLs_map {α : Type} {f : α → PyData} (h : ∀ x, noL (f x) = true) (xs : List α) : noLs (xs.map f) = true := noLs_of fun d hd => by
  obtain ⟨x, _, rfl⟩ := List.mem_map.mp hd
  exact h x
theorem small1k {n : Nat} (h : n ≤ 1000) : n ≤ sizeLine := Nat.le_of_lt (small1000 h)
theorem catA_ok {K : PySem.W.Frag} {H : Hp} {a b : Addr} {xs ys : List V} {Q : VK} (ha : SqT K H a xs) (hb : SqT K H b ys) (hl : xs.length + ys.length ≤ sizeLine) (k : ∀ r H', Same H H' → SqT K H' r (xs ++ ys) → Q (.ref r) H') :
    rCatA K (.ref a) (.ref b) H Q := by
  refine ⟨a, b, xs, ys, rfl, rfl, ha, hb, hl, fun e => ?_, fun _ e => ?_, fun _ _ p hp => k p _ (same_new hp _) (SqT.of upd_same)⟩
  · subst e
    exact k b H (Same.refl H) hb
  · subst e
    exact k a H (Same.refl H) (by rw [List.append_nil]; exact ha)
theorem slA_ok {K : PySem.W.Frag} {H : Hp} {a : Addr} {xs : List V} {lo hi : Option Int} {Q : VK} (ha : SqT K H a xs) (hw : (HT.sIx xs.length 0 lo = 0 ∧ HT.sIx xs.length xs.length hi = xs.length) → cutV xs lo hi = xs)
    (k : ∀ r H', Same H H' → SqT K H' r (cutV xs lo hi) → Q (.ref r) H') : rSlA K (.ref a) lo hi H Q :=
  ⟨a, xs, rfl, ha, fun z => k a H (Same.refl H) (by rw [hw z]; exact ha), fun _ p hp => k p _ (same_new hp _) (SqT.of upd_same)⟩
theorem dp_at {K : PySem.W.Frag} {H : Hp} {v : V} {ds : List PyData} {i : Nat} {d : PyData} (h : Dp K H v (.tuple ds)) (e : ds[i]? = some d) : ∃ a xs x, v = .ref a ∧ SqT K H a xs ∧ xs.length = ds.length ∧ xs[i]? = some x ∧ atI xs (i : Int) = some x ∧ Dp K H x d := by
  obtain ⟨a, xs, rfl, s, al⟩ := dp_tup h
  obtain ⟨x, ex, dx⟩ := dps_get al e
  exact ⟨a, xs, x, rfl, s, dps_len al, ex, atI_nat ex, dx⟩
/-! ### where rows lead -/
def stepAt (t : Tab) (n c : Nat) : Stp := (t.getD n []).getD c none
def walkF (t : Tab) : Nat → List Nat → Option (Nat × List Nat)
  | n, [] => some (n, [])
  | n, c :: r => match stepAt t n c with
    | none => none
    | some (n', x) => (walkF t n' r).map fun p => (p.1, x :: p.2)
theorem walk_cons (t : Tab) (n c : Nat) (r : List Nat) : walkF t n (c :: r) = match stepAt t n c with
    | none => none
    | some (n', x) => (walkF t n' r).map fun p => (p.1, x :: p.2) := rfl
theorem walk_none (t : Tab) : ∀ (r s : List Nat) (n : Nat), walkF t n r = none → walkF t n (r ++ s) = none
  | [], s, n, h => by cases h
  | c :: r, s, n, h => by
    rw [List.cons_append, walk_cons]
    have h' := h
    rw [walk_cons] at h'
    cases e : stepAt t n c with
    | none => rfl
    | some p =>
      obtain ⟨n', x⟩ := p
      rw [e] at h'
      have q : walkF t n' r = none := by
        cases z : walkF t n' r with
        | none => rfl
        | some p => simp [z] at h'
      show (walkF t n' (r ++ s)).map _ = none
      rw [walk_none t r s n' q]
      rfl
theorem walk_some (t : Tab) : ∀ (r s : List Nat) (n m : Nat) (ws : List Nat), walkF t n r = some (m, ws) → walkF t n (r ++ s) = (walkF t m s).map fun p => (p.1, ws ++ p.2)
  | [], s, n, m, ws, h => by
    cases h
    show walkF t n s = _
    cases walkF t n s with
    | none => rfl
    | some p => rfl
  | c :: r, s, n, m, ws, h => by
    rw [List.cons_append, walk_cons]
    have h' := h
    rw [walk_cons] at h'
    cases e : stepAt t n c with
    | none => rw [e] at h'; cases h'
    | some p =>
      obtain ⟨n', x⟩ := p
      rw [e] at h'
      cases z : walkF t n' r with
      | none => simp [z] at h'
      | some p =>
        obtain ⟨m', ws'⟩ := p
        have q : m' = m ∧ x :: ws' = ws := by simpa [z] using h'
        obtain ⟨rfl, rfl⟩ := q
        show (walkF t n' (r ++ s)).map _ = _
        rw [walk_some t r s n' m' ws' z]
        cases walkF t m' s with
        | none => rfl
        | some p => rfl
theorem walk_one (t : Tab) (n c : Nat) : walkF t n [c] = (stepAt t n c).map fun p => (p.1, [p.2]) := by
  rw [walk_cons]
  cases stepAt t n c with
  | none => rfl
  | some p => rfl
theorem stepAt_good {t : Tab} {m : Nat} (g : Good t m) {n c n' x : Nat} (e : stepAt t n c = some (n', x)) : n' < t.length ∧ x < 4 := by
  unfold stepAt at e
  rw [List.getD_eq_getElem?_getD, List.getD_eq_getElem?_getD] at e
  cases z : t[n]? with
  | none => simp [z] at e
  | some r =>
    rw [z] at e
    have e' : r[c]?.getD none = some (n', x) := e
    cases y : r[c]? with
    | none => rw [y] at e'; cases e'
    | some s =>
      rw [y] at e'
      have e2 : s = some (n', x) := e'
      subst e2
      exact g.steps r (List.mem_of_getElem? z) n' x (List.mem_of_getElem? y)
theorem walk_good {t : Tab} {m : Nat} (g : Good t m) : ∀ (r : List Nat) (n k : Nat) (ws : List Nat), n < t.length → walkF t n r = some (k, ws) → k < t.length ∧ ws.length = r.length ∧ ∀ x ∈ ws, x < 4
  | [], n, k, ws, hn, h => by
    cases h
    exact ⟨hn, rfl, fun _ z => nomatch z⟩
  | c :: r, n, k, ws, hn, h => by
    have h' := h
    rw [walk_cons] at h'
    cases e : stepAt t n c with
    | none => rw [e] at h'; cases h'
    | some p =>
      obtain ⟨n', x⟩ := p
      rw [e] at h'
      cases z : walkF t n' r with
      | none => simp [z] at h'
      | some p =>
        obtain ⟨m', ws'⟩ := p
        have q : m' = k ∧ x :: ws' = ws := by simpa [z] using h'
        obtain ⟨rfl, rfl⟩ := q
        obtain ⟨a, b⟩ := stepAt_good g e
        obtain ⟨y1, y2, y3⟩ := walk_good g r n' m' ws' a z
        refine ⟨y1, congrArg (· + 1) y2, fun u hu => ?_⟩
        rcases List.mem_cons.mp hu with rfl | hu
        · exact b
        · exact y3 u hu
/-- a table's step, in the heap -/
theorem tab_at {K : PySem.W.Frag} {H : Hp} {v : V} {t : Tab} {m n c : Nat} (g : Good t m) (h : Dp K H v (tabD t)) (hn : n < t.length) (hc : c < m) :
    ∃ a xs b ys z, v = .ref a ∧ SqT K H a xs ∧ xs.length = t.length ∧ atI xs (n : Int) = some (.ref b) ∧ SqT K H b ys ∧ ys.length = m ∧ atI ys (c : Int) = some z ∧ Dp K H z (stepD (stepAt t n c)) := by
  obtain ⟨r, hr⟩ : ∃ r, t[n]? = some r := ⟨_, List.getElem?_eq_getElem hn⟩
  have hr' : (t.map rowD)[n]? = some (rowD r) := by rw [List.getElem?_map, hr]; rfl
  obtain ⟨a, xs, x, rfl, s, l1, _, e1, d1⟩ := dp_at h hr'
  have lr : r.length = m := g.rows r (List.mem_of_getElem? hr)
  obtain ⟨q, hq⟩ : ∃ q, r[c]? = some q := ⟨_, List.getElem?_eq_getElem (by omega)⟩
  have hq' : (r.map stepD)[c]? = some (stepD q) := by rw [List.getElem?_map, hq]; rfl
  obtain ⟨b, ys, z, rfl, s2, l2, _, e2, d2⟩ := dp_at d1 hq'
  refine ⟨a, xs, b, ys, z, rfl, s, by rw [l1, List.length_map], e1, s2, by rw [l2, List.length_map]; exact lr, e2, ?_⟩
  have : stepAt t n c = q := by
    simp [stepAt, List.getD_eq_getElem?_getD, hr, hq]
  rw [this]
  exact d2
/-- a step's parts, in the heap -/
theorem step_at {K : PySem.W.Frag} {H : Hp} {v : V} {n x : Nat} (h : Dp K H v (stepD (some (n, x)))) : ∃ a xs, v = .ref a ∧ SqT K H a xs ∧ atI xs 0 = some (.int n) ∧ atI xs 1 = some (.int x) ∧ xs.length = 2 := by
  obtain ⟨a, xs, rfl, s, al⟩ := dp_tup (show Dp K H v (.tuple [.int (n : Nat), .int (x : Nat)]) from h)
  have e : xs = [(n : Int), (x : Int)].map V.int := dps_intsV al
  subst e
  exact ⟨a, _, rfl, s, rfl, rfl, rfl⟩
def walkD : Option (Nat × List Nat) → PyData
  | none => .none
  | some (n, ws) => .tuple [.int (n : Nat), lettersD ws]
theorem take_more {α : Type} {l : List α} {i : Nat} {x : α} (h : l[i]? = some x) : l.take (i + 1) = l.take i ++ [x] := by
  rw [List.take_succ, h]
  rfl
/-! ### data that the law compares: to a depth -/
def okD : Nat → PyData → Bool
  | _, .none => true
  | _, .bool _ => true
  | _, .int _ => true
  | _, .str x => PyData.strOk x
  | n + 1, .list ds => decide (ds.length ≤ 1000000) && ds.all (okD n)
  | n + 1, .tuple ds => decide (ds.length ≤ 1000000) && ds.all (okD n)
  | _, _ => false
theorem okD_canAll {n : Nat} (ih : ∀ d : PyData, okD n d = true → d.canLay0 = true) : ∀ ds : List PyData, ds.all (okD n) = true → PyData.canLayAll0 ds = true
  | [], _ => rfl
  | d :: ds, h => by
    simp only [List.all_cons, Bool.and_eq_true] at h
    simp only [PyData.canLayAll0, Bool.and_eq_true]
    exact ⟨ih d h.1, okD_canAll ih ds h.2⟩
theorem okD_can : ∀ (n : Nat) (d : PyData), okD n d = true → d.canLay0 = true
  | _, .none, _ => rfl
  | _, .bool _, _ => rfl
  | _, .int _, _ => rfl
  | 0, .str x, h => h
  | n + 1, .str x, h => h
  | 0, .list ds, h => by simp [okD] at h
  | 0, .tuple ds, h => by simp [okD] at h
  | 0, .dict ds, h => by simp [okD] at h
  | n + 1, .dict ds, h => by simp [okD] at h
  | n + 1, .list ds, h => by
    simp only [okD, Bool.and_eq_true] at h
    exact okD_canAll (okD_can n) ds h.2
  | n + 1, .tuple ds, h => by
    simp only [okD, Bool.and_eq_true] at h
    exact okD_canAll (okD_can n) ds h.2
def tyD : PyData → String
  | .none => "NoneType"
  | .bool _ => "bool"
  | .int _ => "int"
  | .str _ => "str"
  | .list _ => "list"
  | .tuple _ => "tuple"
  | .dict _ => "dict"
theorem dp_ty {K : PySem.W.Frag} {H : Hp} {v : V} {d : PyData} (h : Dp K H v d) : AnyV K H v (tyD d) := by
  cases h with
  | non => exact .non
  | bl b => exact .bl b
  | int i => exact .int i
  | str x => exact .str x
  | lst s _ => exact .lst s
  | tup s _ => exact .tup s
theorem kit2 {K : PySem.W.Frag} {t c1 c2 : String} {b1 b2 : Bool} (h1 : kitB t c1 = some b1) (h2 : kitB t c2 = some b2) : PySem.W.kitAny K (.type t) [.type c1, .type c2] = some (b1 || b2) := by
  refine kitAny_cons (kit_ty h1) (fun e => ?_) (fun e => by rw [e]; rfl)
  subst e
  refine kitAny_cons (kit_ty h2) (fun e => ?_) (fun e => by rw [e]; rfl)
  subst e
  rfl
theorem ixQ_ok {K : PySem.W.Frag} {H : Hp} {a : Addr} {xs : List V} {i : Int} {v : V} {Q : VK} (h : SqL K H a xs ∨ SqT K H a xs) (e : atI xs i = some v) (q : Q v H) : rIx K (.ref a) (.int i) H Q :=
  h.elim (fun z => .inl ⟨a, xs, i, v, rfl, rfl, z, e, q⟩) fun z => .inr (.inl ⟨a, xs, i, v, rfl, rfl, z, e, q⟩)
theorem seqQ {K : PySem.W.Frag} {H H' : Hp} {a : Addr} {xs : List V} (s : Same H H') (h : SqL K H a xs ∨ SqT K H a xs) : SqL K H' a xs ∨ SqT K H' a xs := h.elim (fun z => .inl (s.seq z)) fun z => .inr (seqT s z)
/-! ### a machine in the heap -/
structure Txt (K : PySem.W.Frag) (C : Addr) : Prop where
  cl : Cls K C
  nT : NoAttr K C "_table"
def Mach (K : PySem.W.Frag) (C : Addr) (H : Hp) (x : Addr) (t : Tab) : Prop := ∃ dx v, H x = some (.ins C dx [("_table", v)]) ∧ Dp K H v (tabD t)
theorem Mach.same {K : PySem.W.Frag} {C : Addr} {H H' : Hp} {x : Addr} {t : Tab} (m : Mach K C H x t) (s : Same H H') : Mach K C H' x t := by
  obtain ⟨dx, v, e, d⟩ := m
  exact ⟨dx, v, s _ _ e, dp_same s d⟩
theorem Mach.keep {K : PySem.W.Frag} {C : Addr} {H H' : Hp} {x : Addr} {t : Tab} {h l : Addr} (m : Mach K C H x t) (s : Src H h l) (k : Keep h l H H') : Mach K C H' x t := by
  obtain ⟨dx, v, e, d⟩ := m
  obtain ⟨ne, st, ix, cs, e1, e2, _⟩ := id s
  exact ⟨dx, v, k _ _ (ne_of e e1 (by intro z; cases z)) (ne_of e e2 (by intro z; cases z)) e, s.keepD k d (noL_tab t)⟩
theorem tab_len {K : PySem.W.Frag} {H : Hp} {v : V} {t : Tab} (h : Dp K H v (tabD t)) : ∃ a xs, v = .ref a ∧ SqT K H a xs ∧ xs.length = t.length := by
  obtain ⟨a, xs, rfl, s, al⟩ := dp_tup (show Dp K H v (.tuple (t.map rowD)) from h)
  exact ⟨a, xs, rfl, s, by rw [dps_len al, List.length_map]⟩
/-- what a step, a row of a table are, of any data -/
def belowD (n : Int) : PyData → Bool
  | .int i => decide (0 ≤ i) && decide (i < n)
  | _ => false
def stepOk (n : Int) : PyData → Bool
  | .none => true
  | .tuple [a, b] => belowD n a && belowD 4 b
  | _ => false
def rowOk (n : Int) : PyData → Bool
  | .tuple ds => (decide (ds.length = 2) || decide (ds.length = 3)) && ds.all (stepOk n)
  | _ => false
theorem stepOk_good {n a x : Nat} (h1 : a < n) (h2 : x < 4) : stepOk (n : Int) (stepD (some (a, x))) = true := by
  have e1 : (a : Int) < (n : Int) := by omega
  have e2 : (x : Int) < 4 := by omega
  have e3 : (0 : Int) ≤ (a : Int) := by omega
  have e4 : (0 : Int) ≤ (x : Int) := by omega
  show ((decide (0 ≤ (a : Int)) && decide ((a : Int) < (n : Int))) && (decide (0 ≤ (x : Int)) && decide ((x : Int) < 4))) = true
  rw [decide_eq_true e1, decide_eq_true e2, decide_eq_true e3, decide_eq_true e4]
  rfl
theorem rowOk_good {t : Tab} {m : Nat} (g : Good t m) {r : List Stp} (hr : r ∈ t) : rowOk (t.length : Int) (rowD r) = true := by
  have lr := g.rows r hr
  show ((decide ((r.map stepD).length = 2) || decide ((r.map stepD).length = 3)) && (r.map stepD).all (stepOk (t.length : Int))) = true
  rw [Bool.and_eq_true, List.all_eq_true]
  refine ⟨?_, fun d hd => ?_⟩
  · rw [List.length_map, lr]
    rcases g.lets with e | e <;> rw [e] <;> rfl
  · obtain ⟨s, hs, rfl⟩ := List.mem_map.mp hd
    cases s with
    | none => rfl
    | some p =>
      obtain ⟨a, x⟩ := p
      obtain ⟨h1, h2⟩ := g.steps r hr a x hs
      exact stepOk_good h1 h2
theorem len_two {α : Type} : ∀ {xs : List α}, xs.length = 2 → ∃ a b, xs = [a, b]
  | [a, b], _ => ⟨a, b, rfl⟩
  | [], h => by cases h
  | [_], h => by cases h
  | _ :: _ :: _ :: _, h => by simp at h
theorem stepOk_long {n : Int} : ∀ {ds : List PyData}, ds.length ≠ 2 → stepOk n (.tuple ds) = false
  | [], _ => rfl
  | [_], _ => rfl
  | [_, _], h => absurd rfl h
  | _ :: _ :: _ :: _, _ => rfl
theorem stepOk_two {n : Int} {a b : PyData} : stepOk n (.tuple [a, b]) = (belowD n a && belowD 4 b) := rfl
end WS
namespace Bfs
/-- a row, its last letter first, as a number: shorter ones are less, of one length the lesser in order -/
def enc (m : Nat) : List Nat → Nat
  | [] => 1
  | c :: p => enc m p * m + c
def Lets (m : Nat) (p : List Nat) : Prop := ∀ c ∈ p, c < m
theorem enc_pos (m : Nat) (hm : 2 ≤ m) : ∀ p, 1 ≤ enc m p
  | [] => Nat.le_refl 1
  | c :: p => by
    have h := enc_pos m hm p
    have : enc m p * m ≥ 1 * m := Nat.mul_le_mul_right m h
    show 1 ≤ enc m p * m + c
    omega
theorem enc_up {m a b c c' : Nat} (h : a < b) (hc : c < m) : a * m + c < b * m + c' := by
  have : (a + 1) * m ≤ b * m := Nat.mul_le_mul_right m h
  rw [Nat.add_mul] at this
  omega
theorem enc_le {m a b c c' : Nat} (h : a ≤ b) (hc : c ≤ c') : a * m + c ≤ b * m + c' := by
  have : a * m ≤ b * m := Nat.mul_le_mul_right m h
  omega
theorem enc_le_cons {m : Nat} (hm : 2 ≤ m) (c : Nat) (p : List Nat) : enc m p < enc m (c :: p) := by
  have h := enc_pos m hm p
  have : enc m p * 2 ≤ enc m p * m := Nat.mul_le_mul_left _ hm
  show enc m p < enc m p * m + c
  omega
theorem enc_inj {m : Nat} (hm : 2 ≤ m) : ∀ {p q : List Nat}, Lets m p → Lets m q → enc m p = enc m q → p = q
  | [], [], _, _, _ => rfl
  | [], c :: q, _, _, e => by
    have h := enc_le_cons hm c q
    have h2 := enc_pos m hm q
    rw [← e] at h
    have : enc m [] = 1 := rfl
    omega
  | c :: p, [], _, _, e => by
    have h := enc_le_cons hm c p
    have h2 := enc_pos m hm p
    rw [e] at h
    have : enc m [] = 1 := rfl
    omega
  | c :: p, d :: q, hp, hq, e => by
    have hc : c < m := hp c List.mem_cons_self
    have hd : d < m := hq d List.mem_cons_self
    have e' : enc m p * m + c = enc m q * m + d := e
    have e1 : enc m p = enc m q := by
      rcases Nat.lt_trichotomy (enc m p) (enc m q) with h | h | h
      · have := enc_up (c' := d) h hc
        omega
      · exact h
      · have := enc_up (c' := c) h hd
        omega
    have e2 : c = d := by
      rw [e1] at e'
      omega
    rw [e2, enc_inj hm (fun x hx => hp x (List.mem_cons_of_mem _ hx)) (fun x hx => hq x (List.mem_cons_of_mem _ hx)) e1]
theorem enc_len {m : Nat} (hm : 2 ≤ m) : ∀ {p q : List Nat}, Lets m p → p.length < q.length → enc m p < enc m q
  | _, [], _, h => nomatch h
  | [], c :: q, _, _ => Nat.lt_of_le_of_lt (enc_pos m hm q) (enc_le_cons hm c q)
  | c :: p, d :: q, hp, h => enc_up (enc_len hm (fun x hx => hp x (List.mem_cons_of_mem _ hx)) (Nat.lt_of_succ_lt_succ h)) (hp c List.mem_cons_self)

section
variable {σ : Type} [DecidableEq σ] (m : Nat) (δ : σ → Nat → Option (Option σ)) (s0 : σ)
/-- where a row (its last letter first) leads: nowhere, to the goal (and no further), or to a state -/
def run : List Nat → Option (Option σ)
  | [] => some (some s0)
  | c :: p => match run p with
    | some (some s) => δ s c
    | _ => none
theorem run_cons {p : List Nat} {c : Nat} {s : σ} (h : run δ s0 p = some (some s)) : run δ s0 (c :: p) = δ s c := by
  show (match run δ s0 p with | some (some s) => δ s c | _ => none) = _
  rw [h]
theorem run_pre {p : List Nat} {c : Nat} {o : Option σ} (h : run δ s0 (c :: p) = some o) : ∃ s, run δ s0 p = some (some s) ∧ δ s c = some o := by
  have h' : (match run δ s0 p with | some (some s) => δ s c | _ => none) = some o := h
  cases e : run δ s0 p with
  | none => rw [e] at h'; cases h'
  | some q =>
    cases q with
    | none => rw [e] at h'; cases h'
    | some s => rw [e] at h'; exact ⟨s, rfl, h'⟩
structure Best (p : List Nat) : Prop where
  lets : Lets m p
  goal : run δ s0 p = some none
  least : ∀ q, Lets m q → run δ s0 q = some none → enc m p ≤ enc m q
def NoneB : Prop := ∀ q, Lets m q → run δ s0 q ≠ some none
theorem Best.unique (hm : 2 ≤ m) {p q : List Nat} (a : Best m δ s0 p) (b : Best m δ s0 q) : p = q := enc_inj hm a.lets b.lets (Nat.le_antisymm (a.least q b.lets b.goal) (b.least p a.lets a.goal))
theorem Best.notNone {p : List Nat} (a : Best m δ s0 p) (b : NoneB m δ s0) : False := b p a.lets a.goal

abbrev Known (σ : Type) := List (σ × List Nat)
/-- before letter c of the i-th known state -/
structure Inv (K : Known σ) (i c : Nat) : Prop where
  head : K[0]? = some (s0, [])
  rows : ∀ x ∈ K, run δ s0 x.2 = some (some x.1) ∧ Lets m x.2
  nodup : (K.map (·.1)).Nodup
  made : ∀ x ∈ K, x.2 = [] ∨ ∃ k s q d, K[k]? = some (s, q) ∧ x.2 = d :: q ∧ (k < i ∨ (k = i ∧ d < c))
  sorted : ∀ (a b : Nat) (s : σ) (p : List Nat) (t : σ) (q : List Nat), a < b → K[a]? = some (s, p) → K[b]? = some (t, q) → enc m p < enc m q
  done : ∀ (k : Nat) (s : σ) (q : List Nat) (d : Nat), K[k]? = some (s, q) → d < m → (k < i ∨ (k = i ∧ d < c)) → δ s d = none ∨ ∃ s' q', δ s d = some (some s') ∧ (s', q') ∈ K ∧ enc m q' ≤ enc m (d :: q)
variable {m δ s0} {K : Known σ} {i c : Nat}
theorem Inv.start : Inv m δ s0 [(s0, [])] 0 0 where
  head := rfl
  rows := fun x hx => by rw [List.mem_singleton.mp hx]; exact ⟨rfl, fun _ z => nomatch z⟩
  nodup := List.nodup_cons.mpr ⟨fun z => (nomatch z), List.nodup_nil⟩
  made := fun x hx => .inl (by rw [List.mem_singleton.mp hx])
  sorted := fun a b s p t q h h1 h2 => by
    have : b < 1 := (List.getElem?_eq_some_iff.mp h2).1
    omega
  done := fun k s q d _ _ h => by omega
/-- all that is known lies ahead of the next row -/
theorem Inv.ahead (hm : 2 ≤ m) (I : Inv m δ s0 K i c) {s : σ} {p : List Nat} (hi : K[i]? = some (s, p)) (hc : c ≤ m) {x : σ × List Nat} (hx : x ∈ K) : x.2 = [] ∨ enc m x.2 < enc m p * m + c := by
  rcases I.made x hx with e | ⟨k, t, q, d, hk, e, h⟩
  · exact .inl e
  · right
    have hd : d < m := (I.rows x hx).2 d (by rw [e]; exact List.mem_cons_self)
    rw [e]
    rcases h with h | ⟨rfl, h⟩
    · exact enc_up (I.sorted k i t q s p h hk hi) hd
    · rw [hi] at hk
      cases hk
      show enc m p * m + d < enc m p * m + c
      omega
theorem Inv.ahead1 (hm : 2 ≤ m) (I : Inv m δ s0 K i c) {s : σ} {p : List Nat} (hi : K[i]? = some (s, p)) (hc : c ≤ m) {x : σ × List Nat} (hx : x ∈ K) : enc m x.2 < enc m p * m + c := by
  rcases I.ahead hm hi hc hx with e | e
  · rw [e]
    have h := enc_pos m hm p
    have : enc m p * 2 ≤ enc m p * m := Nat.mul_le_mul_left _ hm
    show 1 < _
    omega
  · exact e
theorem Inv.none_ (I : Inv m δ s0 K i c) {s : σ} {p : List Nat} (hi : K[i]? = some (s, p)) (h : δ s c = none) : Inv m δ s0 K i (c + 1) where
  head := I.head
  rows := I.rows
  nodup := I.nodup
  made := fun x hx => (I.made x hx).imp id fun ⟨k, t, q, d, a, b, z⟩ => ⟨k, t, q, d, a, b, z.imp id fun z => ⟨z.1, by omega⟩⟩
  sorted := I.sorted
  done := fun k t q d hk hd z => by
    by_cases e : k = i ∧ d = c
    · obtain ⟨rfl, rfl⟩ := e
      rw [hi] at hk
      cases hk
      exact .inl h
    · exact I.done k t q d hk hd (by omega)
theorem Inv.seen (hm : 2 ≤ m) (I : Inv m δ s0 K i c) {s s' : σ} {p q' : List Nat} (hi : K[i]? = some (s, p)) (hc : c < m) (h : δ s c = some (some s')) (hk : (s', q') ∈ K) : Inv m δ s0 K i (c + 1) where
  head := I.head
  rows := I.rows
  nodup := I.nodup
  made := fun x hx => (I.made x hx).imp id fun ⟨k, t, q, d, a, b, z⟩ => ⟨k, t, q, d, a, b, z.imp id fun z => ⟨z.1, by omega⟩⟩
  sorted := I.sorted
  done := fun k t q d hk' hd z => by
    by_cases e : k = i ∧ d = c
    · obtain ⟨rfl, rfl⟩ := e
      rw [hi] at hk'
      cases hk'
      exact .inr ⟨s', q', h, hk, Nat.le_of_lt (I.ahead1 hm hi (Nat.le_of_lt hc) hk)⟩
    · exact I.done k t q d hk' hd (by omega)
theorem get_snoc {α : Type} {l : List α} {x y : α} {k : Nat} (h : (l ++ [x])[k]? = some y) : l[k]? = some y ∨ (k = l.length ∧ y = x) := by
  rcases Nat.lt_or_ge k l.length with g | g
  · rw [List.getElem?_append_left g] at h
    exact .inl h
  · rw [List.getElem?_append_right g] at h
    right
    have : k - l.length = 0 := by
      have := (List.getElem?_eq_some_iff.mp h).1
      simp at this
      omega
    rw [this] at h
    exact ⟨by omega, (Option.some.inj h).symm⟩
theorem get_left {α : Type} {l : List α} {x y : α} {k : Nat} (h : l[k]? = some y) : (l ++ [x])[k]? = some y := by
  rw [List.getElem?_append_left (List.getElem?_eq_some_iff.mp h).1]
  exact h
theorem Inv.new_ (hm : 2 ≤ m) (I : Inv m δ s0 K i c) {s s' : σ} {p : List Nat} (hi : K[i]? = some (s, p)) (hc : c < m) (h : δ s c = some (some s')) (hk : s' ∉ K.map (·.1)) : Inv m δ s0 (K ++ [(s', c :: p)]) i (c + 1) where
  head := get_left I.head
  rows := fun x hx => by
    rcases List.mem_append.mp hx with hx | hx
    · exact I.rows x hx
    · rw [List.mem_singleton.mp hx]
      have r := I.rows _ (List.mem_of_getElem? hi)
      refine ⟨(run_cons δ s0 r.1).trans h, fun d hd => ?_⟩
      rcases List.mem_cons.mp hd with rfl | hd
      · exact hc
      · exact r.2 d hd
  nodup := by
    rw [List.map_append, List.nodup_append]
    refine ⟨I.nodup, List.nodup_cons.mpr ⟨fun z => (nomatch z), List.nodup_nil⟩, fun a ha b hb e => ?_⟩
    rw [List.mem_singleton.mp hb] at e
    have e' : a = s' := e
    rw [e'] at ha
    exact hk ha
  made := fun x hx => by
    rcases List.mem_append.mp hx with hx | hx
    · exact (I.made x hx).imp id fun ⟨k, t, q, d, a, b, z⟩ => ⟨k, t, q, d, get_left a, b, z.imp id fun z => ⟨z.1, by omega⟩⟩
    · rw [List.mem_singleton.mp hx]
      exact .inr ⟨i, s, p, c, get_left hi, rfl, .inr ⟨rfl, Nat.lt_succ_self c⟩⟩
  sorted := fun a b t q u r hab ha hb => by
    rcases get_snoc hb with hb | ⟨rfl, e⟩
    · have la : a < K.length := Nat.lt_trans hab (List.getElem?_eq_some_iff.mp hb).1
      rw [List.getElem?_append_left la] at ha
      exact I.sorted a b t q u r hab ha hb
    · rcases get_snoc ha with ha | ⟨rfl, _⟩
      · cases e
        exact I.ahead1 hm hi (Nat.le_of_lt hc) (x := (t, q)) (List.mem_of_getElem? ha)
      · omega
  done := fun k t q d hk' hd z => by
    have lk : (K ++ [(s', c :: p)])[k]? = some (t, q) := hk'
    have li : i < K.length := (List.getElem?_eq_some_iff.mp hi).1
    rw [List.getElem?_append_left (by omega)] at hk'
    by_cases e : k = i ∧ d = c
    · obtain ⟨rfl, rfl⟩ := e
      rw [hi] at hk'
      cases hk'
      exact .inr ⟨s', _, h, List.mem_append_right _ (List.mem_singleton.mpr rfl), Nat.le_refl _⟩
    · rcases I.done k t q d hk' hd (by omega) with z | ⟨u, v, z1, z2, z3⟩
      · exact .inl z
      · exact .inr ⟨u, v, z1, List.mem_append_left _ z2, z3⟩
theorem Inv.next (I : Inv m δ s0 K i m) : Inv m δ s0 K (i + 1) 0 where
  head := I.head
  rows := I.rows
  nodup := I.nodup
  made := fun x hx => (I.made x hx).imp id fun ⟨k, t, q, d, a, b, z⟩ => ⟨k, t, q, d, a, b, .inl (by omega)⟩
  sorted := I.sorted
  done := fun k t q d hk hd z => I.done k t q d hk hd (by omega)
/-- every row that leads to a state does so behind a known one, or lies behind the next -/
theorem Inv.cover (hm : 2 ≤ m) (hcm : c ≤ m) (I : Inv m δ s0 K i c) : ∀ (r : List Nat) (s : σ), Lets m r → run δ s0 r = some (some s) →
    (∃ q, (s, q) ∈ K ∧ enc m q ≤ enc m r) ∨ ∃ s1 p, K[i]? = some (s1, p) ∧ enc m p * m + c ≤ enc m r
  | [], s, _, h => by
    cases h
    exact .inl ⟨[], List.mem_of_getElem? I.head, Nat.le_refl _⟩
  | d :: r, s, hl, h => by
    obtain ⟨t, ht, hd⟩ := run_pre δ s0 h
    have ld : d < m := hl d List.mem_cons_self
    rcases Inv.cover hm hcm I r t (fun x hx => hl x (List.mem_cons_of_mem _ hx)) ht with ⟨q, hq, le⟩ | ⟨s1, p, hi, le⟩
    · obtain ⟨k, hk⟩ := List.getElem?_of_mem hq
      by_cases e : k < i ∨ (k = i ∧ d < c)
      · rcases I.done k t q d hk ld e with z | ⟨u, v, z1, z2, z3⟩
        · rw [hd] at z
          cases z
        · rw [hd] at z1
          cases z1
          exact .inl ⟨v, z2, Nat.le_trans z3 (enc_le le (Nat.le_refl d))⟩
      · right
        have lk : k < K.length := (List.getElem?_eq_some_iff.mp hk).1
        obtain ⟨⟨s1, p⟩, hi⟩ : ∃ y, K[i]? = some y := ⟨_, List.getElem?_eq_getElem (show i < K.length by omega)⟩
        refine ⟨s1, p, hi, ?_⟩
        by_cases ek : k = i
        · subst ek
          rw [hi] at hk
          cases hk
          exact enc_le le (by omega)
        · have lt := I.sorted i k s1 p t q (by omega) hi hk
          refine Nat.le_trans ?_ (enc_le (c := d) le (Nat.le_refl d))
          by_cases hc : c < m
          · exact Nat.le_of_lt (enc_up lt hc)
          · have : (enc m p + 1) * m ≤ enc m q * m := Nat.mul_le_mul_right m lt
            rw [Nat.add_mul] at this
            omega
    · exact .inr ⟨s1, p, hi, Nat.le_trans le (Nat.le_of_lt (enc_le_cons hm d r))⟩
/-- the goal found: the least row -/
theorem Inv.best (hm : 2 ≤ m) (I : Inv m δ s0 K i c) {s : σ} {p : List Nat} (hi : K[i]? = some (s, p)) (hc : c < m) (h : δ s c = some none) : Best m δ s0 (c :: p) where
  lets := fun d hd => by
    rcases List.mem_cons.mp hd with rfl | hd
    · exact hc
    · exact (I.rows _ (List.mem_of_getElem? hi)).2 d hd
  goal := (run_cons δ s0 (I.rows _ (List.mem_of_getElem? hi)).1).trans h
  least := fun q hq hg => by
    cases q with
    | nil => cases hg
    | cons d r =>
      obtain ⟨t, ht, hd⟩ := run_pre δ s0 hg
      have ld : d < m := hq d List.mem_cons_self
      rcases I.cover hm (Nat.le_of_lt hc) r t (fun x hx => hq x (List.mem_cons_of_mem _ hx)) ht with ⟨u, hu, le⟩ | ⟨s1, p1, hi', le⟩
      · obtain ⟨k, hk⟩ := List.getElem?_of_mem hu
        by_cases e : k < i ∨ (k = i ∧ d < c)
        · rcases I.done k t u d hk ld e with z | ⟨a, b, z1, _⟩
          · rw [hd] at z; cases z
          · rw [hd] at z1; cases z1
        · by_cases ek : k = i
          · subst ek
            rw [hi] at hk
            cases hk
            exact enc_le le (by omega)
          · have lt := I.sorted i k s p t u (by omega) hi hk
            exact Nat.le_of_lt (Nat.lt_of_lt_of_le (enc_up lt hc) (enc_le (c := d) le (Nat.le_refl d)))
      · rw [hi] at hi'
        cases hi'
        exact Nat.le_trans le (Nat.le_of_lt (enc_le_cons hm d r))
/-- all is looked through: no row -/
theorem Inv.nothing (hm : 2 ≤ m) (I : Inv m δ s0 K i 0) (hi : K.length ≤ i) : NoneB m δ s0 := by
  intro q hq hg
  cases q with
  | nil => cases hg
  | cons d r =>
    obtain ⟨t, ht, hd⟩ := run_pre δ s0 hg
    have ld : d < m := hq d List.mem_cons_self
    rcases I.cover hm (Nat.zero_le m) r t (fun x hx => hq x (List.mem_cons_of_mem _ hx)) ht with ⟨u, hu, le⟩ | ⟨s1, p1, hi', le⟩
    · obtain ⟨k, hk⟩ := List.getElem?_of_mem hu
      have lk : k < K.length := (List.getElem?_eq_some_iff.mp hk).1
      rcases I.done k t u d hk ld (.inl (by omega)) with z | ⟨a, b, z1, _⟩
      · rw [hd] at z; cases z
      · rw [hd] at z1; cases z1
    · have := (List.getElem?_eq_some_iff.mp hi').1
      omega
/-- how many states there are, at most -/
theorem length_le_of_nodup {α : Type} [DecidableEq α] : ∀ {l t : List α}, l.Nodup → (∀ x ∈ l, x ∈ t) → l.length ≤ t.length
  | [], _, _, _ => Nat.zero_le _
  | a :: l, t, h, hs => by
    have ha := hs a List.mem_cons_self
    have h' := List.nodup_cons.mp h
    have := length_le_of_nodup (l := l) (t := t.erase a) h'.2 fun x hx => (List.mem_erase_of_ne (fun e => h'.1 (by rw [← e]; exact hx))).mpr (hs x (List.mem_cons_of_mem _ hx))
    rw [List.length_erase_of_mem ha] at this
    have pos : 0 < t.length := List.length_pos_of_mem ha
    show l.length + 1 ≤ t.length
    omega
end
end Bfs
namespace WS
open PySem PySem.Spec PyProof.Rows L2
def tDispT (tk tv : TE) : TE := fun σ H Q => ∀ p, H p = none → tk σ (upd H p (.dT [])) fun x H1 => tv σ H1 fun y H2 => H2 p = some (.dT []) ∧ ∃ (b : Addr) (ks : List Key), x = .ref b ∧ H2 b = some (.tup (ks.map kV)) ∧ Q (.ref p) (upd H2 p (.dT [(ks, y)]))
theorem pe_dispT {X : Cx} {k v : Expr} {pos : Pos} {tk tv : TE} (hu : X.A.units + 1 < cLine) (hk : PE X k tk) (hv : PE X v tv) : PE X (.Dict [some k] [v] pos) (tDispT tk tv) := by
  constructor
  intro pins s σ H Q I q
  have hn := I.hok.fresh (Nat.le_refl s.heap.objs.size)
  have I1 := I.laid (a := s.heap.objs.size) (o := .dT []) (h' := s.heap.push { cls := .type "dict", data := .dict #[] }) (t' := s.toks) (fun _ _ z => Heap.get?_push_of_some _ z) (Nat.le_refl _) (dt_empty s.heap I.big)
  rw [arm_eval_Dict, zip_pairTrees [some k] [v] X.env pos rfl rfl, dictDisplay_pairs (pairTrees [some k] [v] X.env pos) (by intro z; cases z) (by show 1 < 17; decide)]
  refine wpAny_bind (wpAny_standAt (wpAny_bind (wpAny_subDictH (knd := tupleKind (mixKind X.prog X.w)) (Q := fun d s' => wpAny (model X.prog X.w) X.A (pure (Value.ref d)) (EP X pins σ Q) X.xe s') ?_ (by show 1 ≤ 15; decide) ?_)))
  · show X.A.units < cLine
    exact Nat.lt_of_le_of_lt (Nat.le_succ _) hu
  refine pairTrees_cons_walk (thn (hk.run pins _ σ _ _ I1 (q _ hn)) ?_)
  rintro u s1 ⟨x, H1, I2, rx, q1⟩
  refine thn (hv.run pins s1 σ H1 _ I2 q1) ?_
  rintro w2 s2 ⟨y, H2, I3, ry, e, b, ks, rfl, eb, q2⟩
  refine pairTrees_nil_walk ?_
  obtain rfl : u = Value.ref b := rx
  obtain ⟨z, hd, xs, rel, dd⟩ := dt_of I3.hok e
  cases rel
  refine ⟨[(ks, b, w2)], ⟨rfl, rfl, key_of I3.hok eb, trivial⟩, dd, fun h' tk' dd' hs => wpAny_pure ⟨.ref s.heap.objs.size, _, ?_, rfl, q2⟩⟩
  obtain ⟨o, es, ep, ho, h2, h3, h4, h5, h6⟩ := dd'
  refine d_write I3 (by rw [e]; exact True.intro) hs ⟨o, ho⟩ ⟨by show 1 ≤ sizeLine; decide, hd, [(ks, b, w2)], .cons ⟨rfl, ?_, ry⟩ .nil, o, es, ep, ho, h2, h3, h4, h6⟩
  rw [upd_ne (ne_of eb e (by intro z; cases z))]
  exact eb
end WS
namespace WS
open PySem L2
def δP (t : Tab) (s : Nat × Nat) (c : Nat) : Option (Option (Nat × Nat)) :=
  match stepAt t s.1 c, stepAt t s.2 c with
  | some (n1, w1), some (n2, w2) => if w1 = w2 then some (some (n1, n2)) else some none
  | _, _ => none
def keyP (s : Nat × Nat) : List Key := [Sum.inl (s.1 : Int), Sum.inl (s.2 : Int)]
theorem keyP_inj {s u : Nat × Nat} (h : keyP s = keyP u) : s = u := by
  obtain ⟨a, b⟩ := s
  obtain ⟨c, d⟩ := u
  have h1 : (Sum.inl (a : Int) : Key) = Sum.inl (c : Int) := (List.cons.inj h).1
  have h2 : (Sum.inl (b : Int) : Key) = Sum.inl (d : Int) := (List.cons.inj (List.cons.inj h).2).1
  have e1 := Sum.inl.inj h1
  have e2 := Sum.inl.inj h2
  have f1 : a = c := by omega
  have f2 : b = d := by omega
  rw [f1, f2]
def intsV (r : List Nat) : List V := (r.map fun (c : Nat) => (c : Int)).map V.int
theorem intsV_len (r : List Nat) : (intsV r).length = r.length := by unfold intsV; rw [List.length_map, List.length_map]
theorem intsV_app (r q : List Nat) : intsV (r ++ q) = intsV r ++ intsV q := by unfold intsV; rw [List.map_append, List.map_append]
theorem dp_letters {K : PySem.W.Frag} {H : Hp} {a : Addr} {r : List Nat} (h : SqT K H a (intsV r)) : Dp K H (.ref a) (lettersD r) := by
  refine .tup h ?_
  have z := dps_ints (K := K) (H := H) (r.map fun (c : Nat) => (c : Int))
  rw [List.map_map (g := PyData.int)] at z
  exact z
theorem letters_dp {K : PySem.W.Frag} {H : Hp} {v : V} {r : List Nat} (h : Dp K H v (lettersD r)) : ∃ a, v = .ref a ∧ SqT K H a (intsV r) := by
  obtain ⟨a, xs, rfl, s, al⟩ := dp_tup (show Dp K H v (.tuple (r.map fun (c : Nat) => PyData.int (c : Int))) from h)
  have e : xs = intsV r := dps_intsV (by rw [List.map_map]; exact al)
  subst e
  exact ⟨a, rfl, s⟩
/-! ### what is known -/
section
variable {K : PySem.W.Frag}
abbrev KnP := List ((Nat × Nat) × List Nat)
def KvOk (K : PySem.W.Frag) (H : Hp) (kvs : List (List Key × V)) (Kn : KnP) : Prop := Paired (fun (kv : List Key × V) (x : (Nat × Nat) × List Nat) => kv.1 = keyP x.1 ∧ ∃ ra, kv.2 = .ref ra ∧ SqT K H ra (intsV x.2.reverse)) kvs Kn
theorem KvOk.mono {H H' : Hp} {kvs : List (List Key × V)} {Kn : KnP} (h : KvOk K H kvs Kn) (s : ∀ a xs, SqT K H a xs → SqT K H' a xs) : KvOk K H' kvs Kn := Paired.mapP h fun _ _ ⟨a, ra, b, c⟩ => ⟨a, ra, b, s _ _ c⟩
theorem KvOk.len {H : Hp} {kvs : List (List Key × V)} {Kn : KnP} (h : KvOk K H kvs Kn) : kvs.length = Kn.length := Paired.length h
theorem KvOk.miss {H : Hp} {kvs : List (List Key × V)} {Kn : KnP} {s : Nat × Nat} (h : KvOk K H kvs Kn) (n : s ∉ Kn.map (·.1)) : valV kvs (keyP s) = none := by
  induction h with
  | nil => rfl
  | @cons kv x kvs Kn h t ih =>
    have n1 : s ≠ x.1 := fun e => n (by rw [e]; exact List.mem_cons_self)
    rw [valV_neg (fun e => n1 (keyP_inj (e.symm.trans h.1)))]
    exact ih fun z => n (List.mem_cons_of_mem _ z)
theorem KvOk.look {H : Hp} {kvs : List (List Key × V)} {Kn : KnP} {s : Nat × Nat} {q : List Nat} (h : KvOk K H kvs Kn) (nd : (Kn.map (·.1)).Nodup) (m : (s, q) ∈ Kn) : ∃ ra, valV kvs (keyP s) = some (.ref ra) ∧ SqT K H ra (intsV q.reverse) := by
  induction h with
  | nil => cases m
  | @cons kv x kvs Kn h t ih =>
    have nd' := List.nodup_cons.mp nd
    rcases List.mem_cons.mp m with e | m
    · subst e
      obtain ⟨h1, ra, h2, h3⟩ := h
      exact ⟨ra, (valV_pos h1).trans (by rw [h2]), h3⟩
    · have n1 : s ≠ x.1 := fun e => nd'.1 (List.mem_map.mpr ⟨_, m, e⟩)
      rw [valV_neg (fun e => n1 (keyP_inj (e.symm.trans h.1)))]
      exact ih nd'.2 m
theorem KvOk.snoc {H : Hp} {kvs : List (List Key × V)} {Kn : KnP} {s : Nat × Nat} {q : List Nat} {ra : Addr} (h : KvOk K H kvs Kn) (e : SqT K H ra (intsV q.reverse)) : KvOk K H (kvs ++ [(keyP s, .ref ra)]) (Kn ++ [(s, q)]) := by
  induction h with
  | nil => exact .cons ⟨rfl, ra, rfl, e⟩ .nil
  | cons a _ ih => exact .cons a ih
theorem KvOk.snoc2 {H : Hp} {kvs kvs' : List (List Key × V)} {Kn : KnP} {s : Nat × Nat} {q : List Nat} {ra : Addr} (h : KvOk K H kvs Kn) (e : SqT K H ra (intsV q.reverse)) (ek : kvs' = kvs ++ [(keyP s, .ref ra)]) : KvOk K H kvs' (Kn ++ [(s, q)]) := by
  subst ek
  exact h.snoc e
/-- pairs in a list -/
def PrOk (H : Hp) (ws : List V) (ps : List (Nat × Nat)) : Prop := Paired (fun (v : V) (s : Nat × Nat) => ∃ a, v = .ref a ∧ H a = some (.tup [.int (s.1 : Nat), .int (s.2 : Nat)])) ws ps
theorem PrOk.mono {H H' : Hp} {ws : List V} {ps : List (Nat × Nat)} (h : PrOk H ws ps) (s : ∀ a xs, H a = some (.tup xs) → H' a = some (.tup xs)) : PrOk H' ws ps := Paired.mapP h fun _ _ ⟨a, b, c⟩ => ⟨a, b, s _ _ c⟩
theorem PrOk.len {H : Hp} {ws : List V} {ps : List (Nat × Nat)} (h : PrOk H ws ps) : ws.length = ps.length := Paired.length h
theorem PrOk.snoc {H : Hp} {ws : List V} {ps : List (Nat × Nat)} {s : Nat × Nat} {a : Addr} (h : PrOk H ws ps) (e : H a = some (.tup [.int (s.1 : Nat), .int (s.2 : Nat)])) : PrOk H (ws ++ [.ref a]) (ps ++ [s]) := by
  induction h with
  | nil => exact .cons ⟨a, rfl, e⟩ .nil
  | cons a _ ih => exact .cons a ih
end
theorem tupU {H : Hp} {p : Addr} {zs : List V} {o : HO} (hp : H p = some (.lst zs)) : ∀ a xs, H a = some (.tup xs) → (upd H p o) a = some (.tup xs) := fun a xs h => by
  rw [upd_ne (ne_of h hp (by intro z; cases z))]
  exact h
theorem tupD {H : Hp} {p : Addr} {kvs : List (List Key × V)} {o : HO} (hp : H p = some (.dT kvs)) : ∀ a xs, H a = some (.tup xs) → (upd H p o) a = some (.tup xs) := fun a xs h => by
  rw [upd_ne (ne_of h hp (by intro z; cases z))]
  exact h
/-- a dict is written: tuples stand -/
theorem seqT_updD {K : PySem.W.Frag} {H : Hp} {p a : Addr} {kvs : List (List Key × V)} {xs : List V} {o : HO} (hp : H p = some (.dT kvs)) (h : SqT K H a xs) : SqT K (upd H p o) a xs := by
  rcases h with (h | ⟨u, h⟩) | h
  · exact .inl (.inl (by rw [upd_ne (ne_of h hp (by intro z; cases z))]; exact h))
  · exact .inl (.inr ⟨u, by rw [upd_ne (ne_of h hp (by intro z; cases z))]; exact h⟩)
  · exact .inr h
/-! ### pairs stay below the number of stands -/
theorem δP_good {t : Tab} {m : Nat} (g : Good t m) {s u : Nat × Nat} {c : Nat} (h : δP t s c = some (some u)) : u.1 < t.length ∧ u.2 < t.length := by
  unfold δP at h
  cases e1 : stepAt t s.1 c with
  | none => rw [e1] at h; cases h
  | some p =>
    obtain ⟨n1, w1⟩ := p
    cases e2 : stepAt t s.2 c with
    | none => rw [e1, e2] at h; cases h
    | some q =>
      obtain ⟨n2, w2⟩ := q
      rw [e1, e2] at h
      have h' : (if w1 = w2 then some (some (n1, n2)) else some none) = some (some u) := h
      by_cases e : w1 = w2
      · rw [if_pos e] at h'
        cases h'
        exact ⟨(stepAt_good g e1).1, (stepAt_good g e2).1⟩
      · rw [if_neg e] at h'
        cases h'
theorem run_good {t : Tab} {m : Nat} (g : Good t m) {s0 s : Nat × Nat} (h0 : s0.1 < t.length ∧ s0.2 < t.length) : ∀ {p : List Nat}, Bfs.run (δP t) s0 p = some (some s) → s.1 < t.length ∧ s.2 < t.length
  | [], h => by cases h; exact h0
  | c :: p, h => by
    obtain ⟨u, hu, hc⟩ := Bfs.run_pre _ _ h
    exact δP_good g hc
def allP (n : Nat) : List (Nat × Nat) := (List.range n).flatMap fun a => (List.range n).map fun b => (a, b)
theorem allP_mem {n : Nat} {s : Nat × Nat} (h : s.1 < n ∧ s.2 < n) : s ∈ allP n := List.mem_flatMap.mpr ⟨s.1, List.mem_range.mpr h.1, List.mem_map.mpr ⟨s.2, List.mem_range.mpr h.2, rfl⟩⟩
theorem allP_len : ∀ n, n ≤ 6 → (allP n).length ≤ 36
  | 0, _ => by decide
  | 1, _ => by decide
  | 2, _ => by decide
  | 3, _ => by decide
  | 4, _ => by decide
  | 5, _ => by decide
  | 6, _ => by decide
  | n + 7, h => by omega
theorem known_le {t : Tab} {m : Nat} (g : Good t m) {s0 : Nat × Nat} (h0 : s0.1 < t.length ∧ s0.2 < t.length) {Kn : KnP} {i c : Nat} (I : Bfs.Inv m (δP t) s0 Kn i c) : Kn.length ≤ 36 := by
  have h1 : (Kn.map (·.1)).length ≤ (allP t.length).length := Bfs.length_le_of_nodup I.nodup fun x hx => by
    obtain ⟨y, hy, rfl⟩ := List.mem_map.mp hx
    exact allP_mem (run_good g h0 (I.rows y hy).1)
  rw [List.length_map] at h1
  exact Nat.le_trans h1 (allP_len _ g.hi)
/-- how long a row is: a known state's is no longer than those known ahead of it -/
theorem row_len {m : Nat} {δ : Nat × Nat → Nat → Option (Option (Nat × Nat))} {s0 : Nat × Nat} {Kn : KnP} {i c : Nat} (hm : 2 ≤ m) (I : Bfs.Inv m δ s0 Kn i c) (k : Nat) : ∀ (x : (Nat × Nat) × List Nat), Kn[k]? = some x → x.2.length ≤ k := by
  induction k using Nat.strongRecOn with
  | ind k ih =>
    intro x hx
    rcases I.made x (List.mem_of_getElem? hx) with e | ⟨k', s, q, d, hk, e, _⟩
    · rw [e]
      exact Nat.zero_le _
    · have lt : k' < k := by
        rcases Nat.lt_trichotomy k' k with h | h | h
        · exact h
        · subst h
          rw [hk] at hx
          cases hx
          have := congrArg List.length e
          simp at this
        · have h1 := I.sorted k k' x.1 x.2 s q h hx hk
          rw [e] at h1
          have h2 := Bfs.enc_le_cons hm d q
          omega
      have := ih k' lt _ hk
      rw [e]
      show q.length + 1 ≤ k
      have h3 : q.length ≤ k' := this
      omega
def aparts (K : PySem.W.Frag) (t : Tab) (m : Nat) (s : Nat × Nat) (H : Hp) (v : V) : Prop :=
  (∃ q, Bfs.Best m (δP t) s q ∧ q.length ≤ 40 ∧ Dp K H v (lettersD q.reverse)) ∨ (Bfs.NoneB m (δP t) s ∧ v = .non)
/-- a search by pairs as it stands in the heap: the dict of what is known at d, at wl the list of what waits, from the j-th on -/
structure LInv (K : PySem.W.Frag) (H0 H : Hp) (d wl : Addr) (Kn : KnP) (j : Nat) : Prop where
  same : Same H0 H
  nd : H0 d = none
  nw : H0 wl = none
  ex : ∃ kvs ws, H d = some (.dT kvs) ∧ H wl = some (.lst ws) ∧ KvOk K H kvs Kn ∧ PrOk H ws ((Kn.drop j).map (·.1))
theorem LInv.more {K : PySem.W.Frag} {H0 H H' : Hp} {d wl : Addr} {Kn : KnP} {j : Nat} (L : LInv K H0 H d wl Kn j) (s : Same H H') : LInv K H0 H' d wl Kn j := by
  obtain ⟨a, b, c, kvs, ws, e1, e2, e3, e4⟩ := L
  exact ⟨a.trans s, b, c, kvs, ws, s _ _ e1, s _ _ e2, e3.mono fun _ _ => seqT s, e4.mono fun _ _ => s _ _⟩
theorem LInv.pop {K : PySem.W.Frag} {H0 H : Hp} {d wl : Addr} {Kn : KnP} {j : Nat} {w : V} {ws : List V} (L : LInv K H0 H d wl Kn j) (e : H wl = some (.lst (w :: ws))) : LInv K H0 (upd H wl (.lst ws)) d wl Kn (j + 1) := by
  obtain ⟨a, b, c, kvs, ws', e1, e2, e3, e4⟩ := L
  rw [e] at e2
  cases e2
  refine ⟨fun x o h => by rw [upd_ne (ne_of_none h c)]; exact a x o h, b, c, kvs, ws, ?_, upd_same, e3.mono fun _ _ => seqT_upd e, ?_⟩
  · rw [upd_ne (ne_of e1 e (by intro z; cases z))]
    exact e1
  · have e5 : (Kn.drop j).map (·.1) ≠ [] := by
      intro z
      rw [z] at e4
      cases e4
    have lt : j < Kn.length := by
      rcases Nat.lt_or_ge j Kn.length with h | h
      · exact h
      · exact absurd (by rw [List.drop_eq_nil_of_le h]; rfl) e5
    rw [List.drop_eq_getElem_cons lt, List.map_cons] at e4
    cases e4 with
    | cons _ t => exact PrOk.mono t (tupU e)
theorem LInv.push {K : PySem.W.Frag} {H0 H : Hp} {d wl ra ta : Addr} {Kn : KnP} {j : Nat} {s : Nat × Nat} {q : List Nat} {kvs : List (List Key × V)} {ws : List V} (L : LInv K H0 H d wl Kn j) (ed : H d = some (.dT kvs)) (ew : H wl = some (.lst ws))
    (hn : s ∉ Kn.map (·.1)) (hj : j ≤ Kn.length) (hr : SqT K H ra (intsV q.reverse)) (ht : H ta = some (.tup [.int (s.1 : Nat), .int (s.2 : Nat)])) :
    LInv K H0 (upd (upd H d (.dT (putK kvs (keyP s) (.ref ra)))) wl (.lst (ws ++ [.ref ta]))) d wl (Kn ++ [(s, q)]) j := by
  obtain ⟨a, b, c, kvs', ws', e1, e2, e3, e4⟩ := L
  rw [ed] at e1
  cases e1
  rw [ew] at e2
  cases e2
  have dw : d ≠ wl := ne_of ed ew (by intro z; cases z)
  have ew' : (upd H d (.dT (putK kvs (keyP s) (.ref ra)))) wl = some (.lst ws) := by rw [upd_ne dw.symm]; exact ew
  have tr : ∀ x xs, SqT K H x xs → SqT K (upd (upd H d (.dT (putK kvs (keyP s) (.ref ra)))) wl (.lst (ws ++ [.ref ta]))) x xs := fun x xs h => seqT_upd ew' (seqT_updD ed h)
  refine ⟨fun x o h => ?_, b, c, putK kvs (keyP s) (.ref ra), ws ++ [.ref ta], ?_, upd_same, ?_, ?_⟩
  · rw [upd_ne (ne_of_none h c), upd_ne (ne_of_none h b)]
    exact a x o h
  · rw [upd_ne dw, upd_same]
  · exact (e3.mono tr).snoc2 (tr _ _ hr) (putK_new _ (e3.miss hn))
  · rw [List.drop_append_of_le_length hj, List.map_append]
    have tr' : ∀ x xs, H x = some (.tup xs) → (upd (upd H d (.dT (putK kvs (keyP s) (.ref ra)))) wl (.lst (ws ++ [.ref ta]))) x = some (.tup xs) := fun x xs h => tupU ew' _ _ (tupD ed _ _ h)
    exact (e4.mono tr').snoc (tr' _ _ ht)
/-- a range walked by a comprehension, or one within another -/
theorem rng_w {lo : Int} {n : Nat} {Body : V → Hp → (Hp → Prop) → Prop} {Qd : Hp → Prop} {H1 : Hp} (Pv : Nat → Hp → Prop) (h0 : Pv 0 H1) (hs : ∀ i H, i < n → Pv i H → Body (.int (lo + i)) H (Pv (i + 1))) (hd : ∀ H, Pv n H → Qd H) :
    ∃ W : Nat → Nat → Hp → Prop, (∃ m, W 0 m H1) ∧ ∀ i m H, W i m H → ((Itr lo n).stop i H ∧ Qd H) ∨ ((Itr lo n).go i H ∧ ∃ Nx : Hp → Prop, (∀ H', Nx H' → ∃ m', m' < m ∧ W (i + 1) m' H') ∧ ∀ x H', (Itr lo n).yld i H x H' → Body x H' Nx) := by
  refine ⟨fun i m H => m + i = n ∧ Pv i H, ⟨n, rfl, h0⟩, ?_⟩
  rintro i m H ⟨em, pv⟩
  rcases Nat.lt_or_ge i n with lt | ge
  · refine .inr ⟨lt, Pv (i + 1), fun H2 p2 => ⟨m - 1, by omega, by omega, p2⟩, ?_⟩
    rintro x H2 ⟨rfl, rfl⟩
    exact hs i _ lt pv
  · have e : i = n := by omega
    subst e
    exact .inl ⟨Nat.le_refl _, hd H pv⟩
/-- all pairs of stands, one less than other -/
def pairsBelow (n : Nat) : List (Nat × Nat) := (List.range n).flatMap fun a => (List.range (n - (a + 1))).map fun b => (a, a + 1 + b)
theorem pairsBelow_mem {n : Nat} {s : Nat × Nat} (h : s ∈ pairsBelow n) : s.1 < n ∧ s.2 < n := by
  obtain ⟨a, ha, h⟩ := List.mem_flatMap.mp h
  obtain ⟨b, hb, rfl⟩ := List.mem_map.mp h
  have h1 := List.mem_range.mp ha
  have h2 := List.mem_range.mp hb
  exact ⟨h1, by show a + 1 + b < n; omega⟩
/-- is it so that no row tells them apart -/
noncomputable def selN (t : Tab) (m : Nat) (s : Nat × Nat) : Bool := @decide (Bfs.NoneB m (δP t) s) (Classical.propDecidable _)
theorem selN_yes {t : Tab} {m : Nat} {s : Nat × Nat} (h : Bfs.NoneB m (δP t) s) : selN t m s = true := @decide_eq_true _ (Classical.propDecidable _) h
theorem selN_no {t : Tab} {m : Nat} {s : Nat × Nat} (h : ¬ Bfs.NoneB m (δP t) s) : selN t m s = false := @decide_eq_false _ (Classical.propDecidable _) h
theorem PrOk.get {H : Hp} {ws : List V} {ps : List (Nat × Nat)} (h : PrOk H ws ps) : ∀ {i : Nat} {x : V}, ws[i]? = some x → ∃ s a, ps[i]? = some s ∧ x = .ref a ∧ H a = some (.tup [.int (s.1 : Nat), .int (s.2 : Nat)]) := by
  induction h with
  | nil => intro i x e; simp at e
  | @cons v s vs ss h t ih =>
    intro i x e
    cases i with
    | zero =>
      obtain ⟨a, h1, h2⟩ := h
      have e' : v = x := Option.some.inj e
      exact ⟨s, a, rfl, e'.symm.trans h1, h2⟩
    | succ i => exact ih (i := i) (by simpa using e)
theorem range_more (n : Nat) : List.range (n + 1) = List.range n ++ [n] := List.range_succ
/-- the dict has a pair more than the list -/
structure LHalf (K : PySem.W.Frag) (H0 H : Hp) (d wl : Addr) (Kn : KnP) (j : Nat) (s : Nat × Nat) (q : List Nat) : Prop where
  same : Same H0 H
  nd : H0 d = none
  nw : H0 wl = none
  lej : j ≤ Kn.length
  ex : ∃ kvs ws, H d = some (.dT kvs) ∧ H wl = some (.lst ws) ∧ KvOk K H kvs (Kn ++ [(s, q)]) ∧ PrOk H ws ((Kn.drop j).map (·.1))
theorem LInv.put {K : PySem.W.Frag} {H0 H : Hp} {d wl ra : Addr} {Kn : KnP} {j : Nat} {s : Nat × Nat} {q : List Nat} {kvs : List (List Key × V)} (L : LInv K H0 H d wl Kn j) (ed : H d = some (.dT kvs))
    (hn : s ∉ Kn.map (·.1)) (hj : j ≤ Kn.length) (hr : SqT K H ra (intsV q.reverse)) : LHalf K H0 (upd H d (.dT (putK kvs (keyP s) (.ref ra)))) d wl Kn j s q := by
  obtain ⟨a, b, c, kvs', ws, e1, e2, e3, e4⟩ := L
  rw [ed] at e1
  cases e1
  have dw : d ≠ wl := ne_of ed e2 (by intro z; cases z)
  have tr : ∀ x xs, SqT K H x xs → SqT K (upd H d (.dT (putK kvs (keyP s) (.ref ra)))) x xs := fun x xs h => seqT_updD ed h
  refine ⟨fun x o h => ?_, b, c, hj, putK kvs (keyP s) (.ref ra), ws, upd_same, ?_, ?_, ?_⟩
  · rw [upd_ne (ne_of_none h b)]
    exact a x o h
  · rw [upd_ne dw.symm]
    exact e2
  · exact (e3.mono tr).snoc2 (tr _ _ hr) (putK_new _ (e3.miss hn))
  · exact e4.mono (tupD ed)
theorem LHalf.more {K : PySem.W.Frag} {H0 H H' : Hp} {d wl : Addr} {Kn : KnP} {j : Nat} {s : Nat × Nat} {q : List Nat} (L : LHalf K H0 H d wl Kn j s q) (z : Same H H') : LHalf K H0 H' d wl Kn j s q := by
  obtain ⟨a, b, c, f, kvs, ws, e1, e2, e3, e4⟩ := L
  exact ⟨a.trans z, b, c, f, kvs, ws, z _ _ e1, z _ _ e2, e3.mono fun _ _ => seqT z, e4.mono fun _ _ => z _ _⟩
theorem LHalf.app {K : PySem.W.Frag} {H0 H : Hp} {d wl ta : Addr} {Kn : KnP} {j : Nat} {s : Nat × Nat} {q : List Nat} {ws : List V} (L : LHalf K H0 H d wl Kn j s q) (ew : H wl = some (.lst ws)) (ht : H ta = some (.tup [.int (s.1 : Nat), .int (s.2 : Nat)])) :
    LInv K H0 (upd H wl (.lst (ws ++ [.ref ta]))) d wl (Kn ++ [(s, q)]) j := by
  obtain ⟨a, b, c, f, kvs, ws', e1, e2, e3, e4⟩ := L
  rw [ew] at e2
  cases e2
  refine ⟨fun x o h => ?_, b, c, kvs, ws ++ [.ref ta], ?_, upd_same, e3.mono fun _ _ => seqT_upd ew, ?_⟩
  · rw [upd_ne (ne_of_none h c)]
    exact a x o h
  · rw [upd_ne (ne_of e1 ew (by intro z; cases z))]
    exact e1
  · rw [List.drop_append_of_le_length f, List.map_append]
    exact (e4.mono (tupU ew)).snoc (tupU ew _ _ ht)
/-- a search at its start: the dict of one pair, the list of one pair -/
theorem KvOk.get {K : PySem.W.Frag} {H : Hp} {kvs : List (List Key × V)} {Kn : KnP} (h : KvOk K H kvs Kn) (nd : (Kn.map (·.1)).Nodup) {s : Nat × Nat} {q : List Nat} (m : (s, q) ∈ Kn) {d b : Addr} (ed : H d = some (.dT kvs)) (eb : H b = some (.tup [.int (s.1 : Nat), .int (s.2 : Nat)])) :
    ∃ ra, DGet H d (.ref b) (some (.ref ra)) ∧ SqT K H ra (intsV q.reverse) := by
  obtain ⟨ra, look, sra⟩ := h.look nd m
  refine ⟨ra, ?_, sra⟩
  rw [← look]
  exact DGet.t ed eb
/-- what a law's search answers -/
def apartsL (K : PySem.W.Frag) (t : Tab) (m : Nat) (s : Nat × Nat) (H : Hp) (v : V) : Prop :=
  (∃ q, Bfs.Best m (δP t) s q ∧ q.length ≤ 40 ∧ Dp K H v (lettersD q.reverse)) ∨ (Bfs.NoneB m (δP t) s ∧ Dp K H v (lettersD []))
end WS
namespace WS
open PySem L2
def unlikeF (t : Tab) (a b : Nat) (r : List Nat) : Bool := match walkF t a r, walkF t b r with
  | some (_, u), some (_, v) => decide (u ≠ v)
  | _, _ => false
theorem walk_snoc (t : Tab) {a : Nat} {r : List Nat} {c n : Nat} {w : List Nat} (h : walkF t a (r ++ [c]) = some (n, w)) : ∃ x u v, walkF t a r = some (x, u) ∧ stepAt t x c = some (n, v) ∧ w = u ++ [v] := by
  cases e : walkF t a r with
  | none => rw [walk_none t r [c] a e] at h; cases h
  | some p =>
    obtain ⟨x, u⟩ := p
    rw [walk_some t r [c] a x u e, walk_one] at h
    cases s : stepAt t x c with
    | none => rw [s] at h; cases h
    | some q =>
      obtain ⟨n', v⟩ := q
      rw [s] at h
      have h' : n' = n ∧ u ++ [v] = w := by simpa using h
      obtain ⟨rfl, rfl⟩ := h'
      exact ⟨x, u, v, rfl, s, rfl⟩
theorem walk_snoc_some (t : Tab) {a : Nat} {r : List Nat} {c x n v : Nat} {u : List Nat} (h : walkF t a r = some (x, u)) (s : stepAt t x c = some (n, v)) : walkF t a (r ++ [c]) = some (n, u ++ [v]) := by
  rw [walk_some t r [c] a x u h, walk_one, s]
  rfl
theorem like_of_run {t : Tab} {a b : Nat} : ∀ {p : List Nat} {s : Nat × Nat}, Bfs.run (δP t) (a, b) p = some (some s) → ∃ w, walkF t a p.reverse = some (s.1, w) ∧ walkF t b p.reverse = some (s.2, w)
  | [], s, h => by cases h; exact ⟨[], rfl, rfl⟩
  | c :: p, s, h => by
    obtain ⟨u, hu, hd⟩ := Bfs.run_pre _ _ h
    obtain ⟨w, h1, h2⟩ := like_of_run hu
    unfold δP at hd
    cases s1 : stepAt t u.1 c with
    | none => rw [s1] at hd; cases hd
    | some p1 =>
      obtain ⟨n1, w1⟩ := p1
      cases s2 : stepAt t u.2 c with
      | none => rw [s1, s2] at hd; cases hd
      | some p2 =>
        obtain ⟨n2, w2⟩ := p2
        rw [s1, s2] at hd
        have hd' : (if w1 = w2 then some (some (n1, n2)) else some none) = some (some s) := hd
        by_cases e : w1 = w2
        · rw [if_pos e] at hd'
          cases hd'
          subst e
          rw [List.reverse_cons]
          exact ⟨w ++ [w1], walk_snoc_some t h1 s1, walk_snoc_some t h2 s2⟩
        · rw [if_neg e] at hd'
          cases hd'
theorem unlike_of_goal {t : Tab} {a b : Nat} {p : List Nat} (h : Bfs.run (δP t) (a, b) p = some none) : unlikeF t a b p.reverse = true := by
  cases p with
  | nil => cases h
  | cons c p =>
    obtain ⟨u, hu, hd⟩ := Bfs.run_pre _ _ h
    obtain ⟨w, h1, h2⟩ := like_of_run hu
    unfold δP at hd
    cases s1 : stepAt t u.1 c with
    | none => rw [s1] at hd; cases hd
    | some p1 =>
      obtain ⟨n1, w1⟩ := p1
      cases s2 : stepAt t u.2 c with
      | none => rw [s1, s2] at hd; cases hd
      | some p2 =>
        obtain ⟨n2, w2⟩ := p2
        rw [s1, s2] at hd
        have hd' : (if w1 = w2 then some (some (n1, n2)) else some none) = some none := hd
        by_cases e : w1 = w2
        · rw [if_pos e] at hd'
          cases hd'
        · rw [List.reverse_cons]
          unfold unlikeF
          rw [walk_snoc_some t h1 s1, walk_snoc_some t h2 s2]
          have ne : w ++ [w1] ≠ w ++ [w2] := fun z => e (by simpa using z)
          show decide (w ++ [w1] ≠ w ++ [w2]) = true
          exact decide_eq_true ne
theorem run_of_like {t : Tab} {a b : Nat} : ∀ {p : List Nat} {x y : Nat} {w : List Nat}, walkF t a p.reverse = some (x, w) → walkF t b p.reverse = some (y, w) → Bfs.run (δP t) (a, b) p = some (some (x, y))
  | [], x, y, w, h1, h2 => by cases h1; cases h2; rfl
  | c :: p, x, y, w, h1, h2 => by
    rw [List.reverse_cons] at h1 h2
    obtain ⟨x0, u1, v1, a1, b1, e1⟩ := walk_snoc t h1
    obtain ⟨y0, u2, v2, a2, b2, e2⟩ := walk_snoc t h2
    have e := e1.symm.trans e2
    have ee : u1 = u2 ∧ v1 = v2 := by
      have z := List.append_inj' e rfl
      exact ⟨z.1, by simpa using z.2⟩
    obtain ⟨rfl, rfl⟩ := ee
    rw [Bfs.run_cons _ _ (run_of_like a1 a2)]
    show δP t (x0, y0) c = _
    unfold δP
    show (match stepAt t x0 c, stepAt t y0 c with | some (n1, w1), some (n2, w2) => if w1 = w2 then some (some (n1, n2)) else some none | _, _ => none) = _
    rw [b1, b2]
    exact if_pos rfl
theorem goal_of_unlike {t : Tab} {a b m : Nat} (hm : 2 ≤ m) : ∀ {p : List Nat}, Bfs.Lets m p → unlikeF t a b p.reverse = true → ∃ q, Bfs.Lets m q ∧ Bfs.run (δP t) (a, b) q = some none ∧ Bfs.enc m q ≤ Bfs.enc m p
  | [], _, h => by
    have : unlikeF t a b [] = false := by
      show decide (([] : List Nat) ≠ []) = false
      rfl
    rw [List.reverse_nil, this] at h
    cases h
  | c :: p, hl, h => by
    have hl' : Bfs.Lets m p := fun x hx => hl x (List.mem_cons_of_mem _ hx)
    by_cases hu : unlikeF t a b p.reverse = true
    · obtain ⟨q, q1, q2, q3⟩ := goal_of_unlike hm hl' hu
      exact ⟨q, q1, q2, Nat.le_trans q3 (Nat.le_of_lt (Bfs.enc_le_cons hm c p))⟩
    · rw [List.reverse_cons] at h
      unfold unlikeF at h hu
      cases w1 : walkF t a (p.reverse ++ [c]) with
      | none => rw [w1] at h; cases h
      | some y1 =>
        cases w2 : walkF t b (p.reverse ++ [c]) with
        | none => rw [w1, w2] at h; cases h
        | some y2 =>
          obtain ⟨n1, x1⟩ := y1
          obtain ⟨n2, x2⟩ := y2
          rw [w1, w2] at h
          have ne : x1 ≠ x2 := of_decide_eq_true h
          obtain ⟨x0, u1, v1, a1, b1, e1⟩ := walk_snoc t w1
          obtain ⟨y0, u2, v2, a2, b2, e2⟩ := walk_snoc t w2
          rw [a1, a2] at hu
          have eu : u1 = u2 := by
            have z : ¬ decide (u1 ≠ u2) = true := hu
            by_cases e : u1 = u2
            · exact e
            · exact absurd (decide_eq_true e) z
          subst eu
          have nv : v1 ≠ v2 := fun z => ne (by rw [e1, e2, z])
          refine ⟨c :: p, hl, ?_, Nat.le_refl _⟩
          rw [Bfs.run_cons _ _ (run_of_like a1 a2)]
          unfold δP
          show (match stepAt t x0 c, stepAt t y0 c with | some (n1, w1), some (n2, w2) => if w1 = w2 then some (some (n1, n2)) else some none | _, _ => none) = _
          rw [b1, b2]
          exact if_neg nv
/-! ### all rows of one length, in order -/
def allRows (m : Nat) : Nat → List (List Nat)
  | 0 => [[]]
  | n + 1 => (allRows m n).flatMap fun r => (List.range m).map fun c => r ++ [c]
theorem allRows_mem {m : Nat} : ∀ {n : Nat} {r : List Nat}, r ∈ allRows m n ↔ r.length = n ∧ Bfs.Lets m r.reverse
  | 0, r => by
    constructor
    · intro h
      rw [List.mem_singleton.mp h]
      exact ⟨rfl, fun _ z => by simp at z⟩
    · intro h
      rw [List.length_eq_zero_iff.mp h.1]
      exact List.mem_singleton.mpr rfl
  | n + 1, r => by
    constructor
    · intro h
      obtain ⟨q, hq, h⟩ := List.mem_flatMap.mp h
      obtain ⟨c, hc, rfl⟩ := List.mem_map.mp h
      have z := allRows_mem.mp hq
      refine ⟨by rw [List.length_append, z.1]; rfl, fun x hx => ?_⟩
      rw [List.reverse_append] at hx
      rcases List.mem_append.mp hx with hx | hx
      · have e : x = c := by simpa using hx
        rw [e]
        exact List.mem_range.mp hc
      · exact z.2 x hx
    · rintro ⟨h1, h2⟩
      obtain ⟨q, c, rfl⟩ : ∃ q c, r = q ++ [c] := by
        have hne : r ≠ [] := fun z => by rw [z] at h1; cases h1
        exact ⟨r.dropLast, r.getLast hne, (List.dropLast_concat_getLast hne).symm⟩
      rw [List.reverse_append] at h2
      refine List.mem_flatMap.mpr ⟨q, allRows_mem.mpr ⟨by simpa using h1, fun x hx => h2 x (List.mem_append_right _ hx)⟩, List.mem_map.mpr ⟨c, List.mem_range.mpr (h2 c (by simp)), rfl⟩⟩
theorem allRows_sorted {m : Nat} : ∀ n : Nat, (allRows m n).Pairwise fun r q => Bfs.enc m r.reverse < Bfs.enc m q.reverse
  | 0 => List.pairwise_singleton _ _
  | n + 1 => by
    have ih := allRows_sorted (m := m) n
    have hl : ∀ r c, c < m → r ∈ allRows m n → Bfs.enc m (r ++ [c]).reverse = Bfs.enc m r.reverse * m + c := fun r c _ _ => by
      rw [List.reverse_append]
      rfl
    have key : ∀ l : List (List Nat), l.Pairwise (fun r q => Bfs.enc m r.reverse < Bfs.enc m q.reverse) → (l.flatMap fun r => (List.range m).map fun c => r ++ [c]).Pairwise fun r q => Bfs.enc m r.reverse < Bfs.enc m q.reverse := by
      intro l
      induction l with
      | nil => intro _; exact List.Pairwise.nil
      | cons r l ihl =>
        intro h
        have h' := List.pairwise_cons.mp h
        rw [List.flatMap_cons, List.pairwise_append]
        refine ⟨?_, ihl h'.2, ?_⟩
        · rw [List.pairwise_map]
          refine List.Pairwise.imp ?_ List.pairwise_lt_range
          intro c d hcd
          rw [List.reverse_append, List.reverse_append]
          show Bfs.enc m r.reverse * m + c < Bfs.enc m r.reverse * m + d
          omega
        · intro x hx y hy
          obtain ⟨c, hc, rfl⟩ := List.mem_map.mp hx
          obtain ⟨q, hq, hy⟩ := List.mem_flatMap.mp hy
          obtain ⟨d, hd, rfl⟩ := List.mem_map.mp hy
          rw [List.reverse_append, List.reverse_append]
          exact Bfs.enc_up (h'.1 q hq) (List.mem_range.mp hc)
    exact key _ ih
theorem first_unlike {t : Tab} {m a b : Nat} (hm : 2 ≤ m) {q : List Nat} (h : Bfs.Best m (δP t) (a, b) q) : ∃ rest, (allRows m q.length).filter (unlikeF t a b) = q.reverse :: rest := by
  have hq : q.reverse ∈ (allRows m q.length).filter (unlikeF t a b) := List.mem_filter.mpr ⟨allRows_mem.mpr ⟨List.length_reverse, by rw [List.reverse_reverse]; exact h.lets⟩, unlike_of_goal h.goal⟩
  cases e : (allRows m q.length).filter (unlikeF t a b) with
  | nil => rw [e] at hq; cases hq
  | cons x rest =>
    have hx : x ∈ (allRows m q.length).filter (unlikeF t a b) := by rw [e]; exact List.mem_cons_self
    have hx' := List.mem_filter.mp hx
    have xm := allRows_mem.mp hx'.1
    have so := (allRows_sorted (m := m) q.length).filter (unlikeF t a b)
    rw [e] at hq so
    rcases List.mem_cons.mp hq with z | z
    · exact ⟨rest, by rw [z]⟩
    · have lt := (List.pairwise_cons.mp so).1 _ z
      rw [List.reverse_reverse] at lt
      obtain ⟨p, p1, p2, p3⟩ := goal_of_unlike hm (p := x.reverse) xm.2 (by rw [List.reverse_reverse]; exact hx'.2)
      have := h.least p p1 p2
      omega
theorem eqvAll_ints : ∀ (r q : List Nat), PyData.eqvAll (r.map fun (c : Nat) => PyData.int (c : Int)) (q.map fun (c : Nat) => PyData.int (c : Int)) = decide (r = q)
  | [], [] => rfl
  | [], d :: q => by
    rw [decide_eq_false (by simp)]
    rfl
  | c :: r, [] => by
    rw [decide_eq_false (by simp)]
    rfl
  | c :: r, d :: q => by
    show (((c : Int) == (d : Int)) && PyData.eqvAll _ _) = _
    rw [eqvAll_ints r q, Bool.eq_iff_iff]
    simp
    omega
theorem eqv_letters (r q : List Nat) : PyData.eqv (lettersD r) (lettersD q) = decide (r = q) := eqvAll_ints r q
theorem depth_ints : ∀ r : List Nat, PyData.depthAll (r.map fun (c : Nat) => PyData.int (c : Int)) = 0
  | [] => rfl
  | c :: r => by
    show max 0 (PyData.depthAll _) = 0
    rw [depth_ints r]
    rfl
theorem okD_letters (n : Nat) {r : List Nat} (h : r.length ≤ 1000000) : okD (n + 1) (lettersD r) = true := by
  unfold lettersD
  simp only [okD, Bool.and_eq_true, decide_eq_true_eq, List.all_eq_true]
  refine ⟨by rw [List.length_map]; omega, fun d hd => ?_⟩
  obtain ⟨c, _, rfl⟩ := List.mem_map.mp hd
  cases n <;> rfl
theorem canLay_ints : ∀ r : List Nat, PyData.canLayAll0 (r.map fun (c : Nat) => PyData.int (c : Int)) = true
  | [] => rfl
  | c :: r => by
    show (true && PyData.canLayAll0 _) = true
    rw [canLay_ints r]
    rfl
theorem shaped_letters (r : List Nat) : SeqAt.shaped (lettersD r) = true := by
  show (PyData.canLayAll0 (r.map fun (c : Nat) => PyData.int (c : Int)) && decide (PyData.depthAll (r.map fun (c : Nat) => PyData.int (c : Int)) + 1 ≤ 64)) = true
  rw [canLay_ints, depth_ints]
  rfl
/-- rows in a list -/
def RowsOk (K : PySem.W.Frag) (H : Hp) (ws : List V) (rs : List (List Nat)) : Prop := Paired (fun (v : V) (r : List Nat) => ∃ a, v = .ref a ∧ SqT K H a (intsV r)) ws rs
theorem RowsOk.mono {K : PySem.W.Frag} {H H' : Hp} {ws : List V} {rs : List (List Nat)} (h : RowsOk K H ws rs) (s : ∀ a xs, SqT K H a xs → SqT K H' a xs) : RowsOk K H' ws rs := Paired.mapP h fun _ _ ⟨a, b, c⟩ => ⟨a, b, s _ _ c⟩
theorem RowsOk.len {K : PySem.W.Frag} {H : Hp} {ws : List V} {rs : List (List Nat)} (h : RowsOk K H ws rs) : ws.length = rs.length := Paired.length h
theorem RowsOk.app {K : PySem.W.Frag} {H : Hp} {ws us : List V} {rs qs : List (List Nat)} (h : RowsOk K H ws rs) (h' : RowsOk K H us qs) : RowsOk K H (ws ++ us) (rs ++ qs) := by
  induction h with
  | nil => exact h'
  | cons a _ ih => exact .cons a ih
theorem RowsOk.get {K : PySem.W.Frag} {H : Hp} {ws : List V} {rs : List (List Nat)} (h : RowsOk K H ws rs) : ∀ {i : Nat} {x : V}, ws[i]? = some x → ∃ r a, rs[i]? = some r ∧ x = .ref a ∧ SqT K H a (intsV r) := by
  induction h with
  | nil => intro i x e; simp at e
  | @cons v s vs ss h t ih =>
    intro i x e
    cases i with
    | zero =>
      obtain ⟨a, h1, h2⟩ := h
      have e' : v = x := Option.some.inj e
      exact ⟨s, a, rfl, e'.symm.trans h1, h2⟩
    | succ i => exact ih (i := i) (by simpa using e)
theorem allRows_len (m n : Nat) (hm : m ≤ 3) (hn : n ≤ 4) : (allRows m n).length ≤ 81 := by
  have key : ∀ m', m' < 4 → ∀ n', n' < 5 → (allRows m' n').length ≤ 81 := by decide +kernel
  exact key m (by omega) n (by omega)
theorem flatMap_take {α β : Type} (f : α → List β) {l : List α} {i : Nat} {x : α} (h : l[i]? = some x) : (l.take (i + 1)).flatMap f = (l.take i).flatMap f ++ f x := by
  rw [take_more h, List.flatMap_append]
  simp
def pairD (s : Nat × Nat) : PyData := .tuple [.int (s.1 : Nat), .int (s.2 : Nat)]
theorem prs_all {K : PySem.W.Frag} {H : Hp} {ws : List V} {ps : List (Nat × Nat)} (h : PrOk H ws ps) : DpAll K H ws (ps.map pairD) := by
  induction h with
  | nil => exact .nil
  | @cons v s vs ss h t ih =>
    obtain ⟨a, rfl, e⟩ := h
    exact .cons (.tup (SqT.of e) (.cons (.int _) (.cons (.int _) .nil))) ih
theorem prs_dp {K : PySem.W.Frag} {H : Hp} {L : Addr} {ws : List V} {ps : List (Nat × Nat)} (e : H L = some (.lst ws)) (h : PrOk H ws ps) : Dp K H (.ref L) (.list (ps.map pairD)) := .lst (SqL.of e) (prs_all h)
theorem okD_pairs {ps : List (Nat × Nat)} (h : ps.length ≤ 1000000) : okD 2 (.list (ps.map pairD)) = true := by
  simp only [okD, Bool.and_eq_true, decide_eq_true_eq, List.all_eq_true]
  refine ⟨by rw [List.length_map]; omega, fun d hd => ?_⟩
  obtain ⟨s, _, rfl⟩ := List.mem_map.mp hd
  rfl
theorem pairsBelow_len (n : Nat) (h : n ≤ 6) : (pairsBelow n).length ≤ 15 := by
  have key : ∀ m, m < 7 → (pairsBelow m).length ≤ 15 := by decide +kernel
  exact key n (by omega)
end WS
namespace WS
open PySem L2
def top (i : Nat) : Stmt := PySem.Challenge.pw_whichstand_k03_whole_told_apart.main.body.getD i (.Pass ⟨0, 0, 0, 0⟩)
abbrev s_is_below : Stmt := top 5
abbrev N_is_below : List Str := ["value", "limit"]
abbrev P_is_below : List Str := ["value", "limit"]
theorem sc_is_below : FnScope N_is_below P_is_below (defScope s_is_below) := ⟨rfl, rfl, rfl, by decide +kernel, rfl, by decide +kernel, by decide +kernel⟩
abbrev s_check_stand : Stmt := top 6
abbrev N_check_stand : List Str := ["machine", "value"]
abbrev P_check_stand : List Str := ["machine", "value"]
theorem sc_check_stand : FnScope N_check_stand P_check_stand (defScope s_check_stand) := ⟨rfl, rfl, rfl, by decide +kernel, rfl, by decide +kernel, by decide +kernel⟩
abbrev s_told_apart : Stmt := top 8
abbrev N_told_apart : List Str := ["machine", "one", "other"]
abbrev P_told_apart : List Str := ["machine", "one", "other"]
theorem sc_told_apart : FnScope N_told_apart P_told_apart (defScope s_told_apart) := ⟨rfl, rfl, rfl, by decide +kernel, rfl, by decide +kernel, by decide +kernel⟩
abbrev s_alike : Stmt := top 9
abbrev N_alike : List Str := ["machine", "stands", "pairs", "one", "other"]
abbrev P_alike : List Str := ["machine"]
theorem sc_alike : FnScope N_alike P_alike (defScope s_alike) := ⟨rfl, rfl, rfl, by decide +kernel, rfl, by decide +kernel, by decide +kernel⟩
abbrev s__least_row_apart : Stmt := top 10
abbrev N__least_row_apart : List Str := ["machine", "one", "other", "rows", "waiting", "left", "right", "letter", "left_step", "right_step", "row", "reached"]
abbrev P__least_row_apart : List Str := ["machine", "one", "other"]
theorem sc__least_row_apart : FnScope N__least_row_apart P__least_row_apart (defScope s__least_row_apart) := ⟨rfl, rfl, rfl, by decide +kernel, rfl, by decide +kernel, by decide +kernel⟩
abbrev s_Machine_init : Stmt := inClass (top 15) 0
abbrev N_Machine_init : List Str := ["self", "table"]
abbrev P_Machine_init : List Str := ["self", "table"]
theorem sc_Machine_init : FnScope N_Machine_init P_Machine_init (defScope s_Machine_init) := ⟨rfl, rfl, rfl, by decide +kernel, rfl, by decide +kernel, by decide +kernel⟩
abbrev s_Machine_len : Stmt := inClass (top 15) 1
abbrev N_Machine_len : List Str := ["self"]
abbrev P_Machine_len : List Str := ["self"]
theorem sc_Machine_len : FnScope N_Machine_len P_Machine_len (defScope s_Machine_len) := ⟨rfl, rfl, rfl, by decide +kernel, rfl, by decide +kernel, by decide +kernel⟩
abbrev s_Machine_eq : Stmt := inClass (top 15) 2
abbrev N_Machine_eq : List Str := ["self", "other"]
abbrev P_Machine_eq : List Str := ["self", "other"]
theorem sc_Machine_eq : FnScope N_Machine_eq P_Machine_eq (defScope s_Machine_eq) := ⟨rfl, rfl, rfl, by decide +kernel, rfl, by decide +kernel, by decide +kernel⟩
abbrev s_Machine_table : Stmt := inClass (top 15) 3
abbrev N_Machine_table : List Str := ["self"]
abbrev P_Machine_table : List Str := ["self"]
theorem sc_Machine_table : FnScope N_Machine_table P_Machine_table (defScope s_Machine_table) := ⟨rfl, rfl, rfl, by decide +kernel, rfl, by decide +kernel, by decide +kernel⟩
abbrev s_Machine_letters : Stmt := inClass (top 15) 4
abbrev N_Machine_letters : List Str := ["self"]
abbrev P_Machine_letters : List Str := ["self"]
theorem sc_Machine_letters : FnScope N_Machine_letters P_Machine_letters (defScope s_Machine_letters) := ⟨rfl, rfl, rfl, by decide +kernel, rfl, by decide +kernel, by decide +kernel⟩
abbrev s__check_table : Stmt := top 16
abbrev N__check_table : List Str := ["value", "index", "steps"]
abbrev P__check_table : List Str := ["value"]
theorem sc__check_table : FnScope N__check_table P__check_table (defScope s__check_table) := ⟨rfl, rfl, rfl, by decide +kernel, rfl, by decide +kernel, by decide +kernel⟩
abbrev s__is_table_row : Stmt := top 17
abbrev N__is_table_row : List Str := ["value", "stands", "step"]
abbrev P__is_table_row : List Str := ["value", "stands"]
theorem sc__is_table_row : FnScope N__is_table_row P__is_table_row (defScope s__is_table_row) := ⟨rfl, rfl, rfl, by decide +kernel, rfl, by decide +kernel, by decide +kernel⟩
abbrev s__is_step : Stmt := top 18
abbrev N__is_step : List Str := ["value", "stands"]
abbrev P__is_step : List Str := ["value", "stands"]
theorem sc__is_step : FnScope N__is_step P__is_step (defScope s__is_step) := ⟨rfl, rfl, rfl, by decide +kernel, rfl, by decide +kernel, by decide +kernel⟩
abbrev s__law_mix : Stmt := top 20
abbrev N__law_mix : List Str := ["_law_script", "_law_seed", "_law_state", "_law_cell"]
abbrev P__law_mix : List Str := ["_law_script", "_law_seed"]
theorem sc__law_mix : FnScope N__law_mix P__law_mix (defScope s__law_mix) := ⟨rfl, rfl, rfl, by decide +kernel, rfl, by decide +kernel, by decide +kernel⟩
abbrev s__law_next : Stmt := top 21
abbrev N__law_next : List Str := ["_law_h", "_law_cap", "_law_cell"]
abbrev P__law_next : List Str := ["_law_h", "_law_cap"]
theorem sc__law_next : FnScope N__law_next P__law_next (defScope s__law_next) := ⟨rfl, rfl, rfl, by decide +kernel, rfl, by decide +kernel, by decide +kernel⟩
abbrev s__law_alike : Stmt := top 22
abbrev N__law_alike : List Str := ["_law_found", "_law_due", "_law_k"]
abbrev P__law_alike : List Str := ["_law_found", "_law_due"]
theorem sc__law_alike : FnScope N__law_alike P__law_alike (defScope s__law_alike) := ⟨rfl, rfl, rfl, by decide +kernel, rfl, by decide +kernel, by decide +kernel⟩
abbrev s__law_pick : Stmt := top 23
abbrev N__law_pick : List Str := ["_law_h", "_law_things"]
abbrev P__law_pick : List Str := ["_law_h", "_law_things"]
theorem sc__law_pick : FnScope N__law_pick P__law_pick (defScope s__law_pick) := ⟨rfl, rfl, rfl, by decide +kernel, rfl, by decide +kernel, by decide +kernel⟩
abbrev s__law_rows : Stmt := top 24
abbrev N__law_rows : List Str := ["_law_letters", "_law_many", "_law_found", "_law_k", "_law_longer", "_law_row", "_law_letter"]
abbrev P__law_rows : List Str := ["_law_letters", "_law_many"]
theorem sc__law_rows : FnScope N__law_rows P__law_rows (defScope s__law_rows) := ⟨rfl, rfl, rfl, by decide +kernel, rfl, by decide +kernel, by decide +kernel⟩
abbrev s__law_table : Stmt := top 25
abbrev N__law_table : List Str := ["_law_h", "_law_many", "_law_letters", "_law_cap", "_law_lacks", "_law_near", "_law_rows_here", "_law_stand", "_law_row", "_law_letter", "_law_goal", "_law_sign"]
abbrev P__law_table : List Str := ["_law_h"]
theorem sc__law_table : FnScope N__law_table P__law_table (defScope s__law_table) := ⟨rfl, rfl, rfl, by decide +kernel, rfl, by decide +kernel, by decide +kernel⟩
abbrev s__law_walk : Stmt := top 26
abbrev N__law_walk : List Str := ["_law_table_here", "_law_stand", "_law_row", "_law_here", "_law_signs", "_law_letter", "_law_step"]
abbrev P__law_walk : List Str := ["_law_table_here", "_law_stand", "_law_row"]
theorem sc__law_walk : FnScope N__law_walk P__law_walk (defScope s__law_walk) := ⟨rfl, rfl, rfl, by decide +kernel, rfl, by decide +kernel, by decide +kernel⟩
abbrev s__law_far : Stmt := top 27
abbrev N__law_far : List Str := ["_law_table_here", "_law_one", "_law_other", "_law_known", "_law_row", "_law_turn", "_law_later", "_law_pair", "_law_letter", "_law_mine", "_law_yours"]
abbrev P__law_far : List Str := ["_law_table_here", "_law_one", "_law_other"]
theorem sc__law_far : FnScope N__law_far P__law_far (defScope s__law_far) := ⟨rfl, rfl, rfl, by decide +kernel, rfl, by decide +kernel, by decide +kernel⟩
abbrev s__law_unlike : Stmt := top 28
abbrev N__law_unlike : List Str := ["_law_table_here", "_law_one", "_law_other", "_law_row", "_law_mine", "_law_yours"]
abbrev P__law_unlike : List Str := ["_law_table_here", "_law_one", "_law_other", "_law_row"]
theorem sc__law_unlike : FnScope N__law_unlike P__law_unlike (defScope s__law_unlike) := ⟨rfl, rfl, rfl, by decide +kernel, rfl, by decide +kernel, by decide +kernel⟩
abbrev s_law : Stmt := top 29
abbrev N_law : List Str := ["_law_script", "_law_h", "_law_turn", "_law_table_here", "_law_machine", "_law_pairs", "_law_one", "_law_other", "_law_many", "_law_found", "_law_rows_here", "_law_some", "_law_row"]
abbrev P_law : List Str := ["_law_script"]
theorem sc_law : FnScope N_law P_law (defScope s_law) := ⟨rfl, rfl, rfl, by decide +kernel, rfl, by decide +kernel, by decide +kernel⟩
local macro_rules | `(tactic| walk_at "rd1") => `(tactic| first
  | refine ⟨_, rfl, ?_⟩
  | refine ⟨_, _, rfl, rfl, ?_⟩
  | refine .inl ⟨_, rfl, ?_⟩
  | refine ⟨.inr ⟨by decide, by decide⟩, ?_⟩
  | refine ⟨by intro z; omega, ?_⟩)
local macro_rules | `(tactic| walk_at "rd") => `(tactic| repeat walk_at "rd1")
section
variable {P : Program} {w : World} {K : PySem.W.Frag} {mg : Str → Option Value} {base : Heap}
/-! ### is_below -/
def below (v : V) (n : Int) : Bool := match v with
  | .int i => decide (0 ≤ i) && decide (i < n)
  | _ => false
def spBelow (K : PySem.W.Frag) : Sp := fun vs H Q _ => ∃ (v : V) (t : String) (n : Int), vs = [v, .int n] ∧ AnyV K H v t ∧ Q (.bl (below v n)) H
theorem ok_is_below {f : Addr} {fd : FuncData} (F : Fun K "is_below" "is_below" s_is_below f fd) (B : Blt mg) : FnOk P w K mg base CX0 1 f fd P_is_below (spBelow K) := by
  refine F.ok sc_is_below (fun vs H Q E h => ?_) (fun cdv A outer s H vs Q E hr h => ?_)
  · obtain ⟨v, t, n, rfl, _⟩ := h
    rfl
  · obtain ⟨v, t, n, rfl, hv, k⟩ := h
    refine ⟨_, (pss_cons (ps_if (PW.pt (pw_or (pt_val (pe_callB (k_isi K) (by rfl) B.n_isinstance (by decide +kernel) (pa_cons (pv 0) (pa_cons (pe_bltn (v := .ty "bool") (u := .type "bool") (by rfl) B.n_bool (by decide +kernel) rfl) pa_nil)))) (pw_or1 (pt_not (pt_val (pe_callB (k_isi K) (by rfl) B.n_isinstance (by decide +kernel) (pa_cons (pv 0) (pa_cons (pe_bltn (v := .ty "int") (u := .type "int") (by rfl) B.n_int (by decide +kernel) rfl) pa_nil)))))))) (pss_one (ps_ret pe_bl)) pss_nil)
 (pss_one (ps_ret (pe_chain op_le op_lt pe_int (pv 0) (pv 1))))), ?_⟩
    obtain ⟨b1, b2, e1, e2, q1, q2⟩ : ∃ b1 b2 : Bool, kitB t "bool" = some b1 ∧ kitB t "int" = some b2 ∧ ((b1 || !b2) = true → below v n = false) ∧ ((b1 || !b2) = false → ∃ i, v = .int i) := by
      cases hv with
      | int i => exact ⟨false, true, by decide +kernel, by decide +kernel, fun q => (nomatch q), fun _ => ⟨i, rfl⟩⟩
      | non => exact ⟨false, false, by decide +kernel, by decide +kernel, fun _ => rfl, fun q => (nomatch q)⟩
      | bl b => exact ⟨true, true, by decide +kernel, by decide +kernel, fun _ => rfl, fun q => (nomatch q)⟩
      | str z => exact ⟨false, false, by decide +kernel, by decide +kernel, fun _ => rfl, fun q => (nomatch q)⟩
      | lst h => exact ⟨false, false, by decide +kernel, by decide +kernel, fun _ => rfl, fun q => (nomatch q)⟩
      | tup h => exact ⟨false, false, by decide +kernel, by decide +kernel, fun _ => rfl, fun q => (nomatch q)⟩
      | dct h => exact ⟨false, false, by decide +kernel, by decide +kernel, fun _ => rfl, fun q => (nomatch q)⟩
    refine ⟨_, rfl, _, _, _, _, b1, rfl, .ty "bool", hv.ty, kit_any e1, b1, rfl, ?_⟩
    cases b1 with
    | true => exact iteT (by rw [q1 rfl] at k; exact k)
    | false =>
      refine iteF ⟨_, rfl, _, _, _, _, b2, rfl, .ty "int", hv.ty, kit_any e2, b2, rfl, ?_⟩
      cases b2 with
      | false => exact iteT (by rw [q1 rfl] at k; exact k)
      | true =>
        obtain ⟨i, rfl⟩ := q2 rfl
        refine iteF ⟨_, rfl, _, _, rfl, rfl, _, rfl, ?_⟩
        by_cases c : (0 : Int) ≤ i
        · rw [decide_eq_true c]
          refine iteT ⟨_, rfl, _, _, rfl, rfl, ?_⟩
          have e : below (.int i) n = decide (i < n) := by simp [below, c]
          rw [e] at k
          exact k
        · rw [decide_eq_false c]
          refine iteF ?_
          have e : below (.int i) n = false := by simp [below, c]
          rw [e] at k
          exact k
/-! ### _is_step, _is_table_row -/
theorem below_d {H : Hp} {v : V} {d : PyData} (h : Dp K H v d) (n : Int) : below v n = belowD n d := by
  cases h <;> rfl
def spStep (K : PySem.W.Frag) : Sp := fun vs H Q _ => ∃ (v : V) (d : PyData) (n : Int), vs = [v, .int n] ∧ Dp K H v d ∧ Q (.bl (stepOk n d)) H
theorem ok_is_step {f : Addr} {fd : FuncData} (F : Fun K "_is_step" "_is_step" s__is_step f fd) (B : Blt mg) {tk : Tok} (g_WRITTEN_LETTERS : mg "WRITTEN_LETTERS" = some (.int 4 tk))
    (G_is_below : DefK P w K mg base CX0 1 "is_below" P_is_below (spBelow K)) : FnOk P w K mg base CX0 2 f fd P__is_step (spStep K) := by
  refine F.ok sc__is_step (fun vs H Q E h => ?_) (fun cdv A outer s H vs Q E hr h => ?_)
  · obtain ⟨v, d, n, rfl, _⟩ := h
    rfl
  · obtain ⟨v, d, n, rfl, dv, k⟩ := h
    refine ⟨_, (pss_cons (ps_if (pt_cmpR op_isN (pv 0) pe_non (nomark _)) (pss_one (ps_ret pe_bl)) pss_nil)
 (pss_cons (ps_if (PW.pt (pw_or (pt_not (pt_val (pe_callB (k_isi K) (by rfl) B.n_isinstance (by decide +kernel) (pa_cons (pv 0) (pa_cons (pe_bltn (v := .ty "tuple") (u := .type "tuple") (by rfl) B.n_tuple (by decide +kernel) rfl) pa_nil))))) (pw_or1 (pt_cmpR op_ne (pe_callB (k_len K) (by rfl) B.n_len boot_len (pa_cons (pv 0) pa_nil)) pe_int (nomark _))))) (pss_one (ps_ret pe_bl)) pss_nil)
 (pss_one (ps_ret (pe_and (pe_def G_is_below (hr.mono (by omega)) (by rfl) (pa_cons (pe_ix (k_ixT K) (pv 0) pe_int (fun _ _ => rfl)) (pa_cons (pv 1) pa_nil))) (pe_one (pe_def G_is_below (hr.mono (by omega)) (by rfl) (pa_cons (pe_ix (k_ixT K) (pv 0) pe_int (fun _ _ => rfl)) (pa_cons (pe_gI (by rfl) g_WRITTEN_LETTERS) pa_nil))))))))), ?_⟩
    refine ⟨_, rfl, rfl, _, rfl, ?_⟩
    by_cases hv : v = .non
    · subst hv
      cases dv
      rw [decide_eq_true rfl]
      exact k
    rw [decide_eq_false hv]
    have tv := dp_ty dv
    obtain ⟨e1, e2⟩ | ⟨ds, rfl⟩ : (kitB (tyD d) "tuple" = some false ∧ stepOk n d = false) ∨ ∃ ds, d = .tuple ds := by
      cases dv with
      | non => exact absurd rfl hv
      | bl b => exact .inl ⟨(show kitB "bool" "tuple" = some false by decide +kernel), rfl⟩
      | int b => exact .inl ⟨(show kitB "int" "tuple" = some false by decide +kernel), rfl⟩
      | str b => exact .inl ⟨(show kitB "str" "tuple" = some false by decide +kernel), rfl⟩
      | lst _ _ => exact .inl ⟨(show kitB "list" "tuple" = some false by decide +kernel), rfl⟩
      | tup _ _ => exact .inr ⟨_, rfl⟩
    · refine ⟨_, rfl, _, _, _, _, false, rfl, .ty _, tv.ty, kit_any e1, _, rfl, ?_⟩
      rw [e2] at k
      exact k
    · obtain ⟨a, xs, rfl, sx, al⟩ := dp_tup dv
      have lx := dps_len al
      refine ⟨_, rfl, _, _, _, _, true, rfl, .ty _, tv.ty, kit_any (show kitB "tuple" "tuple" = some true by decide +kernel), _, rfl, _, rfl, a, xs, rfl, .inr sx, rfl, _, rfl, ?_⟩
      by_cases h2 : xs.length = 2
      · have e : decide (V.int ((xs.length : Nat) : Int) = V.int 2) = true := decide_eq_true (by rw [h2]; rfl)
        rw [e]
        obtain ⟨d1, d2, rfl⟩ := len_two (lx.symm.trans h2)
        cases al with
        | cons q1 al =>
          cases al with
          | cons q2 al =>
            cases al
            obtain ⟨t1, a1⟩ := dp_any q1
            obtain ⟨t2, a2⟩ := dp_any q2
            rw [stepOk_two] at k
            refine ⟨_, rfl, a, _, _, _, rfl, rfl, sx, rfl, _, rfl, _, t1, n, rfl, a1, _, rfl, ?_⟩
            rw [below_d q1]
            cases eb : belowD n d1 with
            | false =>
              rw [eb] at k
              exact k
            | true =>
              rw [eb] at k
              refine ⟨_, rfl, a, _, _, _, rfl, rfl, sx, rfl, _, t2, 4, rfl, a2, ?_⟩
              rw [below_d q2]
              exact k
      · have e : decide (V.int ((xs.length : Nat) : Int) = V.int 2) = false := decide_eq_false (fun z => h2 (by have := V.int.inj z; omega))
        rw [e]
        rw [stepOk_long (fun z => h2 (lx.trans z))] at k
        exact k
def spRowOk (K : PySem.W.Frag) : Sp := fun vs H Q _ => ∃ (v : V) (d : PyData) (n : Int), vs = [v, .int n] ∧ Dp K H v d ∧ ∀ H', Same H H' → Q (.bl (rowOk n d)) H'
theorem ok_is_table_row {f : Addr} {fd : FuncData} (F : Fun K "_is_table_row" "_is_table_row" s__is_table_row f fd) (B : Blt mg) {lc : Addr} (g_LETTER_COUNTS : mg "LETTER_COUNTS" = some (.ref lc)) (hLC : ∀ H : Hp, SqT K H lc [.int 2, .int 3])
    (G__is_step : DefK P w K mg base CX0 2 "_is_step" P__is_step (spStep K)) : FnOk P w K mg base CX0 3 f fd P__is_table_row (spRowOk K) := by
  refine F.ok sc__is_table_row (fun vs H Q E h => ?_) (fun cdv A outer s H vs Q E hr h => ?_)
  · obtain ⟨v, d, n, rfl, _⟩ := h
    rfl
  · obtain ⟨v, d, n, rfl, dv, k⟩ := h
    refine ⟨_, (pss_cons (ps_if (PW.pt (pw_or (pt_not (pt_val (pe_callB (k_isi K) (by rfl) B.n_isinstance (by decide +kernel) (pa_cons (pv 0) (pa_cons (pe_bltn (v := .ty "tuple") (u := .type "tuple") (by rfl) B.n_tuple (by decide +kernel) rfl) pa_nil))))) (pw_or1 (pt_cmpR (k_notIn K) (pe_callB (k_len K) (by rfl) B.n_len boot_len (pa_cons (pv 0) pa_nil)) (pe_gR (by rfl) g_LETTER_COUNTS) (by rfl))))) (pss_one (ps_ret pe_bl)) pss_nil)
 (pss_one (ps_ret (pe_callB (k_all K rfl) (by rfl) B.n_all (by decide +kernel) (pa_cons (pe_lc (own := ([("step", 2)] : List (Str × Nat))) (g := gName 2) (tt := tYes) rfl sc__is_table_row.nd (k_pit K (pv 0)) (blkOk_by (own := ([("step", 2)] : List (Str × Nat))) (N := N__is_table_row) (sc := defScope s__is_table_row) (by decide +kernel)) (fun _ _ _ _ _ => by exact (pg_name (i := 2) sc__is_table_row.nd rfl (Or.inl rfl))) (fun _ _ _ _ _ => by exact pts_nil) (fun _ _ _ _ _ => by exact (pe_def G__is_step (hr.mono (by omega)) (by rfl) (pa_cons (pv 2) (pa_cons (pv 1) pa_nil))))) pa_nil))))), ?_⟩
    have tv := dp_ty dv
    obtain ⟨e1, e2⟩ | ⟨ds, rfl⟩ : (kitB (tyD d) "tuple" = some false ∧ rowOk n d = false) ∨ ∃ ds, d = .tuple ds := by
      cases dv with
      | non => exact .inl ⟨(show kitB "NoneType" "tuple" = some false by decide +kernel), rfl⟩
      | bl b => exact .inl ⟨(show kitB "bool" "tuple" = some false by decide +kernel), rfl⟩
      | int b => exact .inl ⟨(show kitB "int" "tuple" = some false by decide +kernel), rfl⟩
      | str b => exact .inl ⟨(show kitB "str" "tuple" = some false by decide +kernel), rfl⟩
      | lst _ _ => exact .inl ⟨(show kitB "list" "tuple" = some false by decide +kernel), rfl⟩
      | tup _ _ => exact .inr ⟨_, rfl⟩
    · refine ⟨_, rfl, _, _, _, _, false, rfl, .ty _, tv.ty, kit_any e1, _, rfl, ?_⟩
      have k' := k H (Same.refl H)
      rw [e2] at k'
      exact k'
    · obtain ⟨a, xs, rfl, sx, al⟩ := dp_tup dv
      have lx := dps_len al
      have inv : inV (.int ((xs.length : Nat) : Int)) [.int 2, .int 3] = (decide (ds.length = 2) || decide (ds.length = 3)) := by
        rw [Bool.eq_iff_iff]
        simp [inV, eqV, lx]
        omega
      refine ⟨_, rfl, _, _, _, _, true, rfl, .ty _, tv.ty, kit_any (show kitB "tuple" "tuple" = some true by decide +kernel), _, rfl, _, rfl, a, xs, rfl, .inr sx, lc, _, rfl, .inr (hLC H), rfl, rfl, _, rfl, ?_⟩
      rw [if_pos rfl, inv]
      cases eb : (decide (ds.length = 2) || decide (ds.length = 3)) with
      | false =>
        have k' := k H (Same.refl H)
        have er : rowOk n (.tuple ds) = false := by
          show ((decide (ds.length = 2) || decide (ds.length = 3)) && ds.all (stepOk n)) = false
          rw [eb]
          rfl
        rw [er] at k'
        exact k'
      | true =>
        refine ⟨_, rfl, a, rfl, ⟨_, sx⟩, fun D hD => lc_tup (K := K) (a := a) (xs := xs) (fun i H' => Same H H' ∧ H' D = some (.lst (((ds.take i).map (stepOk n)).map V.bl))) ⟨same_new hD _, upd_same⟩ (fun i H' _ z => seqT z.1 sx) ?_ ?_⟩
        · rintro i x H1 hx ⟨s1, eD⟩
          obtain ⟨d, hd, dx⟩ := dps_getV (dps_same s1 al) hx
          refine ⟨rfl, _, rfl, _, rfl, x, d, n, rfl, dx, _, eD, ?_, ?_, ?_⟩
          · rw [List.length_map, List.length_map, List.length_take]
            have : ds.length = 2 ∨ ds.length = 3 := by simpa using eb
            exact small1000 (by omega)
          · intro b o e
            rw [upd_ne (ne_of_none e hD)]
            exact s1 b o e
          · rw [upd_same, take_more hd, List.map_append, List.map_append]
            rfl
        · rintro H1 ⟨s1, eD⟩
          rw [lx, List.take_length] at eD
          refine ⟨D, _, rfl, SqL.of eD, ?_⟩
          have er : rowOk n (.tuple ds) = (ds.map (stepOk n)).all id := by
            show ((decide (ds.length = 2) || decide (ds.length = 3)) && ds.all (stepOk n)) = _
            rw [eb, List.all_map]
            rfl
          have k' := k H1 s1
          rw [er] at k'
          exact k'
/-! ### _check_table, of a good one -/
def spTabOk (K : PySem.W.Frag) : Sp := fun vs H Q _ => ∃ (v : V) (t : Tab) (m : Nat), vs = [v] ∧ Good t m ∧ Dp K H v (tabD t) ∧ ∀ H', Same H H' → Q .non H'
theorem ok_check_table {f : Addr} {fd : FuncData} (F : Fun K "_check_table" "_check_table" s__check_table f fd) (B : Blt mg) {tk : Tok} (g_MOST_STANDS : mg "MOST_STANDS" = some (.int 6 tk))
    (G__is_table_row : DefK P w K mg base CX0 3 "_is_table_row" P__is_table_row (spRowOk K)) : FnOk P w K mg base CX0 4 f fd P__check_table (spTabOk K) := by
  refine F.ok sc__check_table (fun vs H Q E h => ?_) (fun cdv A outer s H vs Q E hr h => ?_)
  · obtain ⟨v, t, m, rfl, _⟩ := h
    rfl
  · obtain ⟨v, t, m, rfl, g, dv, k⟩ := h
    refine ⟨_, (pss_cons (ps_if (PW.pt (pw_or (pt_not (pt_val (pe_callB (k_isi K) (by rfl) B.n_isinstance (by decide +kernel) (pa_cons (pv 0) (pa_cons (pe_bltn (v := .ty "tuple") (u := .type "tuple") (by rfl) B.n_tuple (by decide +kernel) rfl) pa_nil))))) (pw_or1 (pt_not (pt_chain op_le op_le pe_int (pe_callB (k_len K) (by rfl) B.n_len boot_len (pa_cons (pv 0) pa_nil)) (pe_gI (by rfl) g_MOST_STANDS)))))) (pss_one ps_never) pss_nil)
 (pss_one (ps_for PassesOwn.never rfl (EnT.pi_enumT (by rfl) B.n_enumerate (pa_cons (pv 0) pa_nil)) (k_tgs (n := 2) K rfl (pgs_cons (pg_name (i := 1) sc__check_table.nd rfl (Or.inl rfl)) (pgs_cons (pg_name (i := 2) sc__check_table.nd rfl (Or.inl rfl)) pgs_nil)))
 (pss_one (ps_if (PW.pt (pw_or (pt_not (pt_val (pe_def G__is_table_row (hr.mono (by omega)) (by rfl) (pa_cons (pv 2) (pa_cons (pe_callB (k_len K) (by rfl) B.n_len boot_len (pa_cons (pv 0) pa_nil)) pa_nil))))) (pw_or1 (pt_cmpR op_ne (pe_callB (k_len K) (by rfl) B.n_len boot_len (pa_cons (pv 2) pa_nil)) (pe_callB (k_len K) (by rfl) B.n_len boot_len (pa_cons (pe_ix (k_ixT K) (pv 0) pe_int (fun _ _ => rfl)) pa_nil)) (nomark _))))) (pss_one ps_never) pss_nil))))), ?_⟩
    have tv := dp_ty dv
    obtain ⟨a, xs, rfl, sx, al⟩ := dp_tup (show Dp K H v (.tuple (t.map rowD)) from dv)
    have lx : xs.length = t.length := by rw [dps_len al, List.length_map]
    have lo := g.lo
    have hi := g.hi
    have c1 : decide ((1 : Int) ≤ ((xs.length : Nat) : Int)) = true := decide_eq_true (by omega)
    have c2 : decide (((xs.length : Nat) : Int) ≤ 6) = true := decide_eq_true (by omega)
    refine ⟨_, rfl, _, _, _, _, true, rfl, .ty _, tv.ty, kit_any (show kitB "tuple" "tuple" = some true by decide +kernel), _, rfl, _, rfl, a, xs, rfl, .inr sx, _, _, rfl, rfl, _, rfl, ?_⟩
    rw [c1]
    refine ⟨_, _, rfl, rfl, _, rfl, ?_⟩
    rw [c2]
    refine ⟨_, rfl, a, xs, rfl, sx, EnT.for_enT (K := K) (a := a) (xs := xs) (fun i σ H' => Same H H' ∧ ∃ u1 u2, σ = [some (.ref a), u1, u2]) ⟨Same.refl H, none, none, rfl⟩ (fun i σ H' _ z => seqT z.1 sx) ?_ ?_⟩
    · rintro i x T σ H1 hx ⟨s1, u1, u2, rfl⟩ hT
      have s2 := s1.trans (same_new hT (HO.tup [V.int (i : Nat), x]))
      have eT : (upd H1 T (.tup [.int (i : Nat), x])) T = some (.tup [.int (i : Nat), x]) := upd_same
      revert s2 eT
      generalize upd H1 T (.tup [.int (i : Nat), x]) = H2
      intro s2 eT
      obtain ⟨d, hd, dx⟩ := dps_getV (dps_same s2 al) hx
      rw [List.getElem?_map] at hd
      obtain ⟨r, hr', rfl⟩ : ∃ r, t[i]? = some r ∧ d = rowD r := by
        cases z : t[i]? with
        | none => rw [z] at hd; cases hd
        | some r => rw [z] at hd; exact ⟨r, rfl, (Option.some.inj hd).symm⟩
      have rm := List.mem_of_getElem? hr'
      have ro := rowOk_good g rm
      obtain ⟨b, ys, rfl, sb, bl⟩ := dp_tup (show Dp K H2 x (.tuple (r.map stepD)) from dx)
      have lb : ys.length = m := by rw [dps_len bl, List.length_map]; exact g.rows r rm
      obtain ⟨r0, hr0⟩ : ∃ r0, t[0]? = some r0 := ⟨_, List.getElem?_eq_getElem (by omega)⟩
      have h0 : (t.map rowD)[0]? = some (rowD r0) := by rw [List.getElem?_map, hr0]; rfl
      obtain ⟨x0, hx0, dx0⟩ := dps_get (dps_same s2 al) h0
      obtain ⟨b0, ys0, rfl, sb0, bl0⟩ := dp_tup (show Dp K H2 x0 (.tuple (r0.map stepD)) from dx0)
      have lb0 : ys0.length = m := by rw [dps_len bl0, List.length_map]; exact g.rows r0 (List.mem_of_getElem? hr0)
      refine ⟨T, _, rfl, SqT.of eT, rfl, _, _, rfl, _, _, rfl, rfl, ?_⟩
      refine ⟨_, rfl, _, rfl, a, xs, rfl, .inr (seqT s2 sx), .ref b, rowD r, _, rfl, dx, fun H3 s3 => ⟨_, rfl, ?_⟩⟩
      rw [lx, ro]
      refine ⟨_, rfl, b, ys, rfl, .inr (seqT s3 sb), _, rfl, a, xs, _, _, rfl, rfl, seqT (s2.trans s3) sx, atI_nat hx0, b0, ys0, rfl, .inr (seqT s3 sb0), rfl, _, rfl, ?_⟩
      rw [decide_eq_true (by rw [lb, lb0])]
      exact ⟨s2.trans s3, _, _, rfl⟩
    · rintro σ H1 ⟨s1, u1, u2, rfl⟩
      exact k H1 s1
/-! ### Machine -/
section
variable {C : Addr}
def spMInit (K : PySem.W.Frag) (C : Addr) : Sp := fun vs H Q _ => ∃ (p dx : Addr) (v : V) (t : Tab) (m : Nat), vs = [.ref p, v] ∧ H p = some (.ins C dx []) ∧ Good t m ∧ Dp K H v (tabD t) ∧
  ∀ H', Mach K C H' p t → (∀ b o, b ≠ p → H b = some o → H' b = some o) → Q .non H'
theorem ok_Machine_init {f : Addr} {fd : FuncData} (F : Fun K "__init__" "Machine.__init__" s_Machine_init f fd) (T : Txt K C)
    (G__check_table : DefK P w K mg base CX0 4 "_check_table" P__check_table (spTabOk K)) : FnOk P w K mg base CX0 5 f fd P_Machine_init (spMInit K C) := by
  refine F.ok sc_Machine_init (fun vs H Q E h => ?_) (fun cdv A outer s H vs Q E hr h => ?_)
  · obtain ⟨p, dx, v, t, m, rfl, _⟩ := h
    rfl
  · obtain ⟨p, dx, v, t, m, rfl, hp, g, dv, k⟩ := h
    refine ⟨_, (pss_cons (ps_expr (pe_def G__check_table (hr.mono (by omega)) (by rfl) (pa_cons (pv 1) pa_nil)))
 (pss_one (ps_fld (pv 0) (pv 1) rfl))), ?_⟩
    refine ⟨_, rfl, v, t, m, rfl, g, dv, fun H1 s1 => ⟨_, rfl, _, rfl, p, C, dx, [], rfl, s1 _ _ hp, T.cl, T.nT, (by show 0 < 1000; decide), ?_⟩⟩
    have e1 := s1 _ _ hp
    refine k _ ⟨dx, v, upd_same, ?_⟩ (fun b o n e => by rw [upd_ne n]; exact s1 _ _ e)
    refine dp_monoT (fun a xs z => ?_) (dp_same s1 dv) (noL_tab t)
    rcases z with (z | ⟨u, z⟩) | z
    · exact .inl (.inl (by rw [upd_ne (ne_of z e1 (by intro q; cases q))]; exact z))
    · exact .inl (.inr ⟨u, by rw [upd_ne (ne_of z e1 (by intro q; cases q))]; exact z⟩)
    · exact .inr z
def spMGet (K : PySem.W.Frag) (C : Addr) : Sp := fun vs H Q _ => ∃ (p dx : Addr) (v : V), vs = [.ref p] ∧ H p = some (.ins C dx [("_table", v)]) ∧ Q v H
theorem ok_Machine_table {f : Addr} {fd : FuncData} (F : Fun K "table" "Machine.table" s_Machine_table f fd) (T : Txt K C) : FnOk P w K mg base CX0 1 f fd P_Machine_table (spMGet K C) := by
  refine F.ok sc_Machine_table (fun vs H Q E h => ?_) (fun cdv A outer s H vs Q E hr h => ?_)
  · obtain ⟨p, dx, v, rfl, _⟩ := h
    rfl
  · obtain ⟨p, dx, v, rfl, hp, k⟩ := h
    refine ⟨_, (pss_one (ps_ret (pe_fld (pv 0) rfl))), ?_⟩
    exact ⟨_, rfl, p, C, dx, _, v, rfl, hp, T.cl, T.nT, rfl, k⟩
def spMLen (K : PySem.W.Frag) (C : Addr) : Sp := fun vs H Q _ => ∃ (p : Addr) (t : Tab), vs = [.ref p] ∧ Mach K C H p t ∧ Q (.int (t.length : Nat)) H
theorem ok_Machine_len {f : Addr} {fd : FuncData} (F : Fun K "__len__" "Machine.__len__" s_Machine_len f fd) (T : Txt K C) (B : Blt mg) : FnOk P w K mg base CX0 1 f fd P_Machine_len (spMLen K C) := by
  refine F.ok sc_Machine_len (fun vs H Q E h => ?_) (fun cdv A outer s H vs Q E hr h => ?_)
  · obtain ⟨p, t, rfl, _⟩ := h
    rfl
  · obtain ⟨p, t, rfl, ⟨dx, v, hp, dv⟩, k⟩ := h
    obtain ⟨a, xs, rfl, sx, lx⟩ := tab_len dv
    refine ⟨_, (pss_one (ps_ret (pe_callB (k_len K) (by rfl) B.n_len boot_len (pa_cons (pe_fld (pv 0) rfl) pa_nil)))), ?_⟩
    rw [← lx] at k
    exact ⟨_, rfl, p, C, dx, _, .ref a, rfl, hp, T.cl, T.nT, rfl, a, xs, rfl, .inr sx, k⟩
def spMLet (K : PySem.W.Frag) (C : Addr) : Sp := fun vs H Q _ => ∃ (p : Addr) (t : Tab) (m : Nat), vs = [.ref p] ∧ Mach K C H p t ∧ Good t m ∧ Q (.int (m : Nat)) H
theorem ok_Machine_letters {f : Addr} {fd : FuncData} (F : Fun K "letters" "Machine.letters" s_Machine_letters f fd) (T : Txt K C) (B : Blt mg) : FnOk P w K mg base CX0 1 f fd P_Machine_letters (spMLet K C) := by
  refine F.ok sc_Machine_letters (fun vs H Q E h => ?_) (fun cdv A outer s H vs Q E hr h => ?_)
  · obtain ⟨p, t, m, rfl, _⟩ := h
    rfl
  · obtain ⟨p, t, m, rfl, ⟨dx, v, hp, dv⟩, g, k⟩ := h
    obtain ⟨a, xs, b, ys, z, rfl, h1, lx, e1, h2, ly, _⟩ := tab_at (n := 0) (c := 0) g dv g.lo (by rcases g.lets with e | e <;> omega)
    refine ⟨_, (pss_one (ps_ret (pe_callB (k_len K) (by rfl) B.n_len boot_len (pa_cons (pe_ix (k_ixT K) (pe_fld (pv 0) rfl) pe_int (fun _ _ => rfl)) pa_nil)))), ?_⟩
    rw [← ly] at k
    exact ⟨_, rfl, p, C, dx, _, .ref a, rfl, hp, T.cl, T.nT, rfl, a, xs, _, _, rfl, rfl, h1, e1, b, ys, rfl, .inr h2, k⟩
/-- a new instance beside all that stood -/
theorem mk_same {H : Hp} (C : Addr) {x dx : Addr} (nx : H x = none) (nd : H dx = none) (ne : dx ≠ x) : Same H (upd (upd H dx (.own x)) x (.ins C dx [])) := (same_new nd _).trans (same_new (by rw [upd_ne ne.symm]; exact nx) _)
end
/-! ### check_stand -/
section
variable {C : Addr}
def spStandOk (K : PySem.W.Frag) (C : Addr) : Sp := fun vs H Q _ => ∃ (p : Addr) (t : Tab) (n : Nat), vs = [.ref p, .int (n : Nat)] ∧ Mach K C H p t ∧ t.length ≤ 6 ∧ n < t.length ∧ Q .non H
theorem ok_check_stand {f : Addr} {fd : FuncData} (F : Fun K "check_stand" "check_stand" s_check_stand f fd) (B : Blt mg) (G_is_below : DefK P w K mg base CX0 1 "is_below" P_is_below (spBelow K)) (l_Machine : LenK P w K mg base 1 C (spMLen K C)) :
    FnOk P w K mg base CX0 3 f fd P_check_stand (spStandOk K C) := by
  refine F.ok sc_check_stand (fun vs H Q E h => ?_) (fun cdv A outer s H vs Q E hr h => ?_)
  · obtain ⟨p, t, n, rfl, _⟩ := h
    rfl
  · obtain ⟨p, t, n, rfl, mm, t6, hn, k⟩ := h
    obtain ⟨dx, v, hp, dv⟩ := id mm
    refine ⟨_, (pss_one (ps_if (pt_not (pt_val (pe_def G_is_below (hr.mono (by omega)) (by rfl) (pa_cons (pv 1) (pa_cons (pe_lenO l_Machine (hr.mono (by omega)) (by rfl) B.n_len (pv 0)) pa_nil))))) (pss_one ps_never) pss_nil)), ?_⟩
    refine ⟨_, rfl, _, rfl, p, dx, _, rfl, hp, p, t, rfl, mm, t.length, rfl, by omega, .int n, "int", _, rfl, .int _, _, rfl, ?_⟩
    have e : below (.int (n : Nat)) ((t.length : Nat) : Int) = true := by
      show (decide ((0 : Int) ≤ (n : Int)) && decide ((n : Int) < ((t.length : Nat) : Int))) = true
      rw [decide_eq_true (by omega), decide_eq_true (by omega)]
      rfl
    rw [e]
    exact k
end
/-! ### _least_row_apart -/
section
variable {C : Addr}
def spLeast (K : PySem.W.Frag) (C : Addr) : Sp := fun vs H Q _ => ∃ (p : Addr) (t : Tab) (m a b : Nat), vs = [.ref p, .int (a : Nat), .int (b : Nat)] ∧ Mach K C H p t ∧ Good t m ∧ a < t.length ∧ b < t.length ∧ ∀ (v : V) (H' : Hp), Same H H' → aparts K t m (a, b) H' v → Q v H'
theorem ok_least_row_apart {f : Addr} {fd : FuncData} (F : Fun K "_least_row_apart" "_least_row_apart" s__least_row_apart f fd) (B : Blt mg) (p_table : PropK P w K mg base 1 C "table" (spMGet K C)) (p_letters : PropK P w K mg base 1 C "letters" (spMLet K C)) :
    FnOk P w K mg base CX0 3 f fd P__least_row_apart (spLeast K C) := by
  refine F.ok sc__least_row_apart (fun vs H Q E h => ?_) (fun cdv A outer s H vs Q E hr h => ?_)
  · obtain ⟨p, t, m, a, b, rfl, _⟩ := h
    rfl
  · obtain ⟨p, t, m, a, b, rfl, mm, g, ha, hb, k⟩ := h
    refine ⟨_, (pss_cons (ps_set (i := 3) sc__least_row_apart.nd rfl (Or.inl rfl) (pe_dispT (hu_of hr) (pe_tup (pa_cons (pv 1) (pa_cons (pv 2) pa_nil))) (pe_tup pa_nil)))
 (pss_cons (ps_set (i := 4) sc__least_row_apart.nd rfl (Or.inl rfl) (pe_lst (pa_cons (pe_tup (pa_cons (pv 1) (pa_cons (pv 2) pa_nil))) pa_nil)))
 (pss_cons (ps_while PassesOwn.never (pt_truth (pv 4) (by intro _; rfl)) (pss_cons (ps_asg (pe_bm PySem.F.plainAttrs_list PySem.F.slot_list_pop PySem.F.type_list_pop mt_popAt (pv 4) (pa_cons pe_int pa_nil)) (k_tgs (n := 2) K rfl (pgs_cons (pg_name (i := 5) sc__least_row_apart.nd rfl (Or.inl rfl)) (pgs_cons (pg_name (i := 6) sc__least_row_apart.nd rfl (Or.inl rfl)) pgs_nil))))
 (pss_one (ps_for PassesOwn.never rfl (pi_range1 (by rfl) B.n_range (pa_cons (pe_propM p_letters (hr.mono (by omega)) (pv 0)) pa_nil)) (pg_name (i := 7) sc__least_row_apart.nd rfl (Or.inl rfl))
 (pss_cons (ps_set (i := 8) sc__least_row_apart.nd rfl (Or.inl rfl) (pe_ix (k_ixT K) (pe_ix (k_ixT K) (pe_propM p_table (hr.mono (by omega)) (pv 0)) (pv 5) (fun _ _ => rfl)) (pv 7) (fun _ _ => rfl)))
 (pss_cons (ps_set (i := 9) sc__least_row_apart.nd rfl (Or.inl rfl) (pe_ix (k_ixT K) (pe_ix (k_ixT K) (pe_propM p_table (hr.mono (by omega)) (pv 0)) (pv 6) (fun _ _ => rfl)) (pv 7) (fun _ _ => rfl)))
 (pss_cons (ps_if (PW.pt (pw_or (pt_cmpR op_isN (pv 8) pe_non (nomark _)) (pw_or1 (pt_cmpR op_isN (pv 9) pe_non (nomark _))))) (pss_one ps_continue) pss_nil)
 (pss_cons (ps_set (i := 10) sc__least_row_apart.nd rfl (Or.inl rfl) (pe_op (k_catT K) (pe_dget (hu_of hr) (pv 3) (pe_tup (pa_cons (pv 5) (pa_cons (pv 6) pa_nil))) (fun _ _ => rfl)) (pe_tup (pa_cons (pv 7) pa_nil))))
 (pss_cons (ps_if (pt_cmpR op_ne (pe_ix (k_ixT K) (pv 8) pe_int (fun _ _ => rfl)) (pe_ix (k_ixT K) (pv 9) pe_int (fun _ _ => rfl)) (nomark _)) (pss_one (ps_ret (pv 10))) pss_nil)
 (pss_cons (ps_set (i := 11) sc__least_row_apart.nd rfl (Or.inl rfl) (pe_tup (pa_cons (pe_ix (k_ixT K) (pv 8) pe_int (fun _ _ => rfl)) (pa_cons (pe_ix (k_ixT K) (pv 9) pe_int (fun _ _ => rfl)) pa_nil))))
 (pss_one (ps_if (pt_cmp (pc_dnotin (hu_of hr) (pv 11) (pv 3))) (pss_cons (ps_dput (hu_of hr) (pv 3) (pv 11) (pv 10) rfl)
 (pss_one (ps_expr (pe_bm PySem.F.plainAttrs_list PySem.F.slot_list_append PySem.F.type_list_append mt_append (pv 4) (pa_cons (pv 11) pa_nil))))) pss_nil))))))))))))
 (pss_one (ps_ret pe_non))))), ?_⟩
    have hm2 : 2 ≤ m := by rcases g.lets with e | e <;> omega
    have hm3 : m ≤ 3 := by rcases g.lets with e | e <;> omega
    -- what is known at first
    refine fun d hd => ⟨_, rfl, _, rfl, by show 2 ≤ sizeLine; decide, fun k1 hk1 => ⟨by show 0 ≤ sizeLine; decide, fun r1 hr1 => ?_⟩⟩
    have dk : d ≠ k1 := fun z => by rw [← z, upd_same] at hk1; cases hk1
    have kr : k1 ≠ r1 := fun z => by rw [← z, upd_same] at hr1; cases hr1
    have dr : d ≠ r1 := fun z => by rw [← z, upd_ne dk, upd_same] at hr1; cases hr1
    have s1 : Same H (upd (upd (upd H d (.dT [])) k1 (.tup [.int (a : Nat), .int (b : Nat)])) r1 (.tup [])) := (same_new hd _).trans ((same_new hk1 _).trans (same_new hr1 _))
    have e1 : (upd (upd (upd H d (.dT [])) k1 (.tup [.int (a : Nat), .int (b : Nat)])) r1 (.tup [])) d = some (.dT []) := by rw [upd_ne dr, upd_ne dk, upd_same]
    have e2 : (upd (upd (upd H d (.dT [])) k1 (.tup [.int (a : Nat), .int (b : Nat)])) r1 (.tup [])) k1 = some (.tup [.int (a : Nat), .int (b : Nat)]) := by rw [upd_ne kr, upd_same]
    have e3 : (upd (upd (upd H d (.dT [])) k1 (.tup [.int (a : Nat), .int (b : Nat)])) r1 (.tup [])) r1 = some (.tup []) := upd_same
    refine ⟨e1, k1, keyP (a, b), rfl, e2, ?_⟩
    revert s1 e1 e2 e3
    generalize upd (upd (upd H d (.dT [])) k1 (.tup [.int (a : Nat), .int (b : Nat)])) r1 (.tup []) = H1
    intro s1 e1 e2 e3
    have s2 : Same H (upd H1 d (.dT [(keyP (a, b), .ref r1)])) := fun x o h => by
      rw [upd_ne (ne_of_none h hd)]
      exact s1 x o h
    have e4 : (upd H1 d (.dT [(keyP (a, b), .ref r1)])) d = some (.dT [(keyP (a, b), .ref r1)]) := upd_same
    have e5 : (upd H1 d (.dT [(keyP (a, b), .ref r1)])) r1 = some (.tup []) := by rw [upd_ne dr.symm]; exact e3
    revert s2 e4 e5
    generalize upd H1 d (.dT [(keyP (a, b), .ref r1)]) = H2
    intro s2 e4 e5
    refine ⟨_, rfl, _, rfl, by show 2 ≤ sizeLine; decide, fun k2 hk2 => ⟨by show 1 ≤ sizeLine; decide, fun wl hwl => ?_⟩⟩
    have s3 := (same_new hk2 (HO.tup [V.int (a : Nat), V.int (b : Nat)])).trans (same_new hwl (HO.lst [V.ref k2]))
    have L0 : LInv K H (upd (upd H2 k2 (.tup [.int (a : Nat), .int (b : Nat)])) wl (.lst [.ref k2])) d wl [((a, b), [])] 0 := by
      refine ⟨s2.trans s3, hd, s2.free ((same_new hk2 _).free hwl), _, _, s3 _ _ e4, upd_same, .cons ⟨rfl, r1, rfl, SqT.of (s3 _ _ e5)⟩ .nil, .cons ⟨k2, rfl, ?_⟩ .nil⟩
      rw [upd_ne (fun z => by rw [z, upd_same] at hwl; cases hwl), upd_same]
    revert L0
    generalize upd (upd H2 k2 (.tup [.int (a : Nat), .int (b : Nat)])) wl (.lst [.ref k2]) = H3
    intro L0
    clear s1 s2 s3 e1 e2 e3 e4 e5 dk kr dr hk1 hr1 hk2 hwl
    have h0 : ((a, b) : Nat × Nat).1 < t.length ∧ ((a, b) : Nat × Nat).2 < t.length := ⟨ha, hb⟩
    -- while waiting
    refine ⟨fun n σ H' => ∃ (Kn : KnP) (i : Nat) (u5 u6 u7 u8 u9 u10 u11 : Option V), n + i = 37 ∧ i ≤ Kn.length ∧ Bfs.Inv m (δP t) (a, b) Kn i 0 ∧ LInv K H H' d wl Kn i ∧
      σ = [some (.ref p), some (.int (a : Nat)), some (.int (b : Nat)), some (.ref d), some (.ref wl), u5, u6, u7, u8, u9, u10, u11], ⟨37, _, 0, _, _, _, _, _, _, _, rfl, Nat.zero_le _, Bfs.Inv.start, L0, rfl⟩, ?_⟩
    rintro n σ H4 ⟨Kn, i, u5, u6, u7, u8, u9, u10, u11, hn, hi, I, L, rfl⟩
    obtain ⟨kvs, ws, ed, ew, kv, pr⟩ := L.ex
    refine ⟨_, rfl, !ws.isEmpty, .inl ⟨ws, SqL.of ew, rfl⟩, ?_⟩
    cases ws with
    | nil =>
      have z := pr.len
      have hl : Kn.length ≤ i := by simp at z; omega
      exact k .non H4 L.same (.inr ⟨I.nothing hm2 hl, rfl⟩)
    | cons w ws =>
      have lt : i < Kn.length := by
        have z := pr.len
        simp at z
        omega
      have k36 := known_le g h0 I
      obtain ⟨⟨⟨l, r⟩, q⟩, hK⟩ : ∃ y, Kn[i]? = some y := ⟨_, List.getElem?_eq_getElem lt⟩
      obtain ⟨wa, rfl, hwa⟩ : ∃ wa, w = .ref wa ∧ H4 wa = some (.tup [.int (l : Nat), .int (r : Nat)]) := by
        rw [List.drop_eq_getElem_cons lt, List.map_cons] at pr
        have e : Kn[i] = ((l, r), q) := Option.some.inj ((List.getElem?_eq_getElem lt).symm.trans hK)
        rw [e] at pr
        cases pr with
        | cons h _ => exact h
      have L' := L.pop ew
      refine ⟨fun σ H' => ∃ (Kn : KnP) (i : Nat) (u5 u6 u7 u8 u9 u10 u11 : Option V), (n - 1) + i = 37 ∧ i ≤ Kn.length ∧ Bfs.Inv m (δP t) (a, b) Kn i 0 ∧ LInv K H H' d wl Kn i ∧
        σ = [some (.ref p), some (.int (a : Nat)), some (.int (b : Nat)), some (.ref d), some (.ref wl), u5, u6, u7, u8, u9, u10, u11], fun σ' H' z => ⟨n - 1, by omega, z⟩, ?_⟩
      refine ⟨_, rfl, .inl ⟨rfl, _, SqL.of ew⟩, wl, _, 0, 0, .ref wa, rfl, rfl, ew, by decide, by decide, ?_, rfl, wa, _, rfl, SqT.of (tupU ew _ _ hwa), rfl, _, _, rfl, _, _, rfl, rfl, ?_⟩
      · unfold seqIndex?
        simp
      have mm4 := mm.same L'.same
      obtain ⟨dx, tv, hp, _⟩ := id mm4
      refine ⟨_, rfl, p, dx, _, rfl, hp, p, t, m, rfl, mm4, g, _, rfl, by omega, by omega, for_range (lo := 0) (n := ((m : Nat) : Int).toNat) (fun c σ H' => ∃ (Kn : KnP) (u7 u8 u9 u10 u11 : Option V), Kn[i]? = some ((l, r), q) ∧ Bfs.Inv m (δP t) (a, b) Kn i c ∧ LInv K H H' d wl Kn (i + 1) ∧
        σ = [some (.ref p), some (.int (a : Nat)), some (.int (b : Nat)), some (.ref d), some (.ref wl), some (.int (l : Nat)), some (.int (r : Nat)), u7, u8, u9, u10, u11]) ⟨Kn, u7, u8, u9, u10, u11, hK, I, L', rfl⟩ ?_ ?_⟩
      · rintro c σ H5 hc ⟨Kn, u7, u8, u9, u10, u11, hK, I, L5, rfl⟩
        have hcm : c < m := by omega
        rw [Int.zero_add]
        have lr := run_good g h0 (I.rows _ (List.mem_of_getElem? hK)).1
        have k36 := known_le g h0 I
        have lti : i < Kn.length := (List.getElem?_eq_some_iff.mp hK).1
        have ql : q.length ≤ i := row_len hm2 I i _ hK
        obtain ⟨dx, tv, hp, dt⟩ := mm.same L5.same
        obtain ⟨ta, txs, lb, lys, lz, rfl, h1, _, e1, h2, _, e2, dz⟩ := tab_at (n := l) g dt lr.1 hcm
        obtain ⟨ta', txs', rb, rys, rz, et, h1', _, e1', h2', _, e2', dz'⟩ := tab_at (n := r) g dt lr.2 hcm
        cases et
        refine ⟨_, rfl, p, dx, _, rfl, hp, p, dx, _, rfl, hp, _, rfl, ta, txs, _, _, rfl, rfl, h1, e1, _, rfl, lb, lys, _, lz, rfl, rfl, h2, e2, ?_⟩
        refine ⟨_, rfl, p, dx, _, rfl, hp, p, dx, _, rfl, hp, _, rfl, ta, txs', _, _, rfl, rfl, h1', e1', _, rfl, rb, rys, _, rz, rfl, rfl, h2', e2', ?_⟩
        refine ⟨_, rfl, rfl, _, rfl, ?_⟩
        cases sl : stepAt t l c with
        | none =>
          rw [sl] at dz
          rw [dp_non dz]
          exact ⟨Kn, _, _, _, _, _, hK, I.none_ hK (by simp [δP, sl]), L5, rfl⟩
        | some y =>
          obtain ⟨n1, w1⟩ := y
          rw [sl] at dz
          obtain ⟨ya, yxs, rfl, y1, y2, y3, _⟩ := step_at dz
          refine ⟨_, rfl, rfl, _, rfl, ?_⟩
          cases sr : stepAt t r c with
          | none =>
            rw [sr] at dz'
            rw [dp_non dz']
            exact ⟨Kn, _, _, _, _, _, hK, I.none_ hK (by simp [δP, sl, sr]), L5, rfl⟩
          | some y' =>
            obtain ⟨n2, w2⟩ := y'
            rw [sr] at dz'
            obtain ⟨za, zxs, rfl, z1, z2, z3, _⟩ := step_at dz'
            have gl := stepAt_good g sl
            have gr := stepAt_good g sr
            -- row = rows[(left, right)] + (letter,)
            refine ⟨_, rfl, _, rfl, _, rfl, by show 2 ≤ sizeLine; decide, fun kk hkk => ?_⟩
            have s6 := same_new hkk (HO.tup [V.int (l : Nat), V.int (r : Nat)])
            have L6 := L5.more s6
            obtain ⟨kvs, ws, ed, ew, kv, pr⟩ := L6.ex
            obtain ⟨ra, look, sra⟩ := kv.look I.nodup (List.mem_of_getElem? hK)
            refine ⟨d, .ref ra, rfl, by rw [← look]; exact DGet.t ed upd_same, _, rfl, by show 1 ≤ sizeLine; decide, fun T hT => catA_ok (seqT (same_new hT _) sra) (SqT.of upd_same) ?_ (fun na H7 s7 hna => ?_)⟩
            · rw [intsV_len, List.length_reverse]
              exact small1k (by show q.length + 1 ≤ 1000; omega)
            have s57 := s6.trans ((same_new hT (HO.tup [V.int (c : Nat)])).trans s7)
            have L7 := L5.more s57
            have hna' : SqT K H7 na (intsV (c :: q).reverse) := by
              rw [List.reverse_cons, intsV_app]
              exact hna
            refine ⟨_, rfl, ya, yxs, _, _, rfl, rfl, seqT s57 y1, y3, _, rfl, za, zxs, _, _, rfl, rfl, seqT s57 z1, z3, rfl, _, rfl, ?_⟩
            by_cases ew12 : w1 = w2
            · rw [decide_eq_true (by rw [ew12])]
              refine ⟨_, rfl, ya, yxs, _, _, rfl, rfl, seqT s57 y1, y2, _, rfl, za, zxs, _, _, rfl, rfl, seqT s57 z1, z2, by show 2 ≤ sizeLine; decide, fun rc hrc => ?_⟩
              have s8 := same_new hrc (HO.tup [V.int (n1 : Nat), V.int (n2 : Nat)])
              have L8 := L7.more s8
              have hδ : δP t (l, r) c = some (some (n1, n2)) := by simp [δP, sl, sr, ew12]
              obtain ⟨kvs, ws, ed, ew, kv, pr⟩ := L8.ex
              have erc : (upd H7 rc (.tup [.int (n1 : Nat), .int (n2 : Nat)])) rc = some (.tup ((keyP (n1, n2)).map kV)) := upd_same
              refine ⟨_, rfl, _, rfl, d, _, rfl, DGet.t ed erc, _, rfl, ?_⟩
              by_cases hin : (n1, n2) ∈ Kn.map (·.1)
              · obtain ⟨y, hy, e⟩ := List.mem_map.mp hin
                obtain ⟨y1', q'⟩ := y
                have e' : y1' = (n1, n2) := e
                subst e'
                obtain ⟨ra', look', _⟩ := kv.look I.nodup hy
                rw [look']
                exact ⟨Kn, _, _, _, _, _, hK, I.seen hm2 hK hcm hδ hy, L8, rfl⟩
              · rw [kv.miss hin]
                have k36' := k36
                refine ⟨_, rfl, _, rfl, _, rfl, d, _, rfl, DPut.t ed erc (small1000 (by rw [kv.len]; omega)), ?_⟩
                have dw : d ≠ wl := ne_of ed ew (by intro z; cases z)
                have ew' : (upd (upd H7 rc (.tup [.int (n1 : Nat), .int (n2 : Nat)])) d (.dT (putK kvs (keyP (n1, n2)) (.ref na)))) wl = some (.lst ws) := by rw [upd_ne dw.symm]; exact ew
                refine ⟨_, rfl, .inl ⟨rfl, _, SqL.of ew'⟩, _, rfl, wl, _, _, rfl, rfl, ew', small1000 (by rw [pr.len, List.length_map, List.length_drop]; omega), ?_⟩
                exact ⟨Kn ++ [((n1, n2), c :: q)], _, _, _, _, _, Bfs.get_left hK, I.new_ hm2 hK hcm hδ hin, L8.push ed ew hin (by omega) (seqT s8 hna') upd_same, rfl⟩
            · rw [decide_eq_false (fun z => ew12 (by have := V.int.inj z; omega))]
              have hδ : δP t (l, r) c = some none := by simp [δP, sl, sr, ew12]
              exact ⟨_, rfl, k _ _ L7.same (.inl ⟨c :: q, I.best hm2 hK hcm hδ, by show q.length + 1 ≤ 40; omega, dp_letters hna'⟩)⟩
      · rintro σ H5 ⟨Kn, u7, u8, u9, u10, u11, hK, I, L5, rfl⟩
        have lti : i < Kn.length := (List.getElem?_eq_some_iff.mp hK).1
        have em : ((m : Nat) : Int).toNat = m := by omega
        rw [em] at I
        exact ⟨Kn, i + 1, _, _, _, _, _, _, _, by omega, lti, I.next, L5, rfl⟩
end
/-! ### told_apart, alike -/
section
variable {C : Addr}
def spTold (K : PySem.W.Frag) (C : Addr) : Sp := fun vs H Q _ => ∃ (p : Addr) (t : Tab) (m a b : Nat), vs = [.ref p, .int (a : Nat), .int (b : Nat)] ∧ Mach K C H p t ∧ Good t m ∧ a < t.length ∧ b < t.length ∧ ∀ (v : V) (H' : Hp), Same H H' → aparts K t m (a, b) H' v → Q v H'
theorem ok_told_apart {f : Addr} {fd : FuncData} (F : Fun K "told_apart" "told_apart" s_told_apart f fd) (G_check_stand : DefK P w K mg base CX0 3 "check_stand" P_check_stand (spStandOk K C)) (G__least_row_apart : DefK P w K mg base CX0 3 "_least_row_apart" P__least_row_apart (spLeast K C)) :
    FnOk P w K mg base CX0 4 f fd P_told_apart (spTold K C) := by
  refine F.ok sc_told_apart (fun vs H Q E h => ?_) (fun cdv A outer s H vs Q E hr h => ?_)
  · obtain ⟨p, t, m, a, b, rfl, _⟩ := h
    rfl
  · obtain ⟨p, t, m, a, b, rfl, mm, g, ha, hb, k⟩ := h
    refine ⟨_, (pss_cons (ps_expr (pe_def G_check_stand (hr.mono (by omega)) (by rfl) (pa_cons (pv 0) (pa_cons (pv 1) pa_nil))))
 (pss_cons (ps_expr (pe_def G_check_stand (hr.mono (by omega)) (by rfl) (pa_cons (pv 0) (pa_cons (pv 2) pa_nil))))
 (pss_one (ps_ret (pe_def G__least_row_apart (hr.mono (by omega)) (by rfl) (pa_cons (pv 0) (pa_cons (pv 1) (pa_cons (pv 2) pa_nil)))))))), ?_⟩
    exact ⟨_, rfl, _, rfl, p, t, a, rfl, mm, g.hi, ha, _, rfl, _, rfl, p, t, b, rfl, mm, g.hi, hb, _, rfl, _, rfl, _, rfl, p, t, m, a, b, rfl, mm, g, ha, hb, k⟩
def spAlikeM (K : PySem.W.Frag) (C : Addr) : Sp := fun vs H Q _ => ∃ (p : Addr) (t : Tab) (m : Nat), vs = [.ref p] ∧ Mach K C H p t ∧ Good t m ∧ ∀ (L : Addr) (H' : Hp) (ws : List V) (ps : List (Nat × Nat)), Same H H' → H' L = some (.lst ws) → PrOk H' ws ps → ps = (pairsBelow t.length).filter (selN t m) → Q (.ref L) H'
theorem ok_alike {f : Addr} {fd : FuncData} (F : Fun K "alike" "alike" s_alike f fd) (B : Blt mg) (l_Machine : LenK P w K mg base 1 C (spMLen K C)) (G__least_row_apart : DefK P w K mg base CX0 3 "_least_row_apart" P__least_row_apart (spLeast K C)) :
    FnOk P w K mg base CX0 4 f fd P_alike (spAlikeM K C) := by
  refine F.ok sc_alike (fun vs H Q E h => ?_) (fun cdv A outer s H vs Q E hr h => ?_)
  · obtain ⟨p, t, m, rfl, _⟩ := h
    rfl
  · obtain ⟨p, t, m, rfl, mm, g, k⟩ := h
    obtain ⟨dx, v, hp, dv⟩ := id mm
    refine ⟨_, (pss_cons (ps_set (i := 1) sc_alike.nd rfl (Or.inr rfl) (pe_lenO l_Machine (hr.mono (by omega)) (by rfl) B.n_len (pv 0)))
 (pss_cons (ps_setLc2 (i := 2) (own := ([("one", 3), ("other", 4)] : List (Str × Nat))) (g := gName 3) (tt := tYes) (g1 := gName 4) (tt1 := tYes) (vs1 := [4]) rfl sc_alike.nd rfl rfl (sw_true rfl rfl rfl (by decide +kernel)) (pi_range1 (by rfl) B.n_range (pa_cons (pv 1) pa_nil)) (blkOk_by (own := ([("one", 3), ("other", 4)] : List (Str × Nat))) (N := N_alike) (sc := defScope s_alike) (by decide +kernel)) (by decide) (fun _ _ _ _ _ => by exact (pg_name (i := 3) sc_alike.nd rfl (Or.inl rfl))) (fun _ _ _ _ _ => by exact pts_nil) (fun _ _ _ _ _ => by exact (pi_range2 (by rfl) B.n_range (pa_cons (pe_op op_add (pv 3) pe_int) (pa_cons (pv 1) pa_nil)))) (fun _ _ _ _ _ => by exact (pg_name (i := 4) sc_alike.nd rfl (Or.inl rfl))) (fun _ _ _ _ _ => by exact pts_nil) (fun _ _ _ _ _ => by exact (pe_tup (pa_cons (pv 3) (pa_cons (pv 4) pa_nil)))))
 (pss_one (ps_ret (pe_lc (own := ([("one", 3), ("other", 4)] : List (Str × Nat))) rfl sc_alike.nd (k_pil K (pv 2)) (blkOk_by (own := ([("one", 3), ("other", 4)] : List (Str × Nat))) (N := N_alike) (sc := defScope s_alike) (by decide +kernel)) (fun _ _ _ _ _ => by exact (k_tgs (n := 2) K rfl (pgs_cons (pg_name (i := 3) sc_alike.nd rfl (Or.inl rfl)) (pgs_cons (pg_name (i := 4) sc_alike.nd rfl (Or.inl rfl)) pgs_nil)))) (fun _ _ _ _ _ => by exact (pts_one (pt_cmpR op_isN (pe_def G__least_row_apart (hr.mono (by omega)) (by rfl) (pa_cons (pv 0) (pa_cons (pv 3) (pa_cons (pv 4) pa_nil)))) pe_non (nomark _)))) (fun _ _ _ _ _ => by exact (pe_tup (pa_cons (pv 3) (pa_cons (pv 4) pa_nil))))))))), ?_⟩
    refine ⟨_, rfl, p, dx, _, rfl, hp, p, t, rfl, mm, t.length, rfl, by have := g.hi; omega, ?_⟩
    have hi6 := g.hi
    have en : ((t.length : Nat) : Int).toNat = t.length := by omega
    let row := fun (a : Nat) => (List.range (t.length - (a + 1))).map fun b => (a, a + 1 + b)
    refine ⟨_, rfl, _, rfl, by omega, by omega, fun D hD => rng_w (lo := 0) (n := ((t.length : Nat) : Int).toNat) (fun i H' => ∃ ws, Same H H' ∧ H' D = some (.lst ws) ∧ PrOk H' ws ((List.range i).flatMap row) ∧ ws.length ≤ 6 * i) ⟨[], same_new hD _, upd_same, .nil, Nat.le_refl _⟩ ?_ ?_⟩
    · rintro i H1 hi ⟨ws, s1, eD, pr, hw⟩
      refine ⟨rfl, _, rfl, _, _, rfl, rfl, _, rfl, _, _, rfl, ⟨by omega, by omega, by omega, by omega⟩, rng_w (lo := 0 + (i : Int) + 1) (n := (((t.length : Nat) : Int) - (0 + (i : Int) + 1)).toNat) (fun j H' => ∃ ws', Same H H' ∧ H' D = some (.lst ws') ∧ PrOk H' ws' ((List.range i).flatMap row ++ (List.range j).map fun b => (i, i + 1 + b)) ∧ ws'.length = ws.length + j)
        ⟨ws, s1, eD, by rw [List.range_zero, List.map_nil, List.append_nil]; exact pr, rfl⟩ ?_ ?_⟩
      · rintro j H2 hj ⟨ws', s2, eD, pr, hw'⟩
        refine ⟨rfl, _, rfl, _, rfl, by show 2 ≤ sizeLine; decide, fun T hT => ?_⟩
        have s3 := same_new hT (HO.tup [V.int (0 + (i : Int)), V.int (0 + (i : Int) + 1 + (j : Int))])
        have eT : (upd H2 T (.tup [.int (0 + (i : Int)), .int (0 + (i : Int) + 1 + (j : Int))])) T = some (.tup [.int (0 + (i : Int)), .int (0 + (i : Int) + 1 + (j : Int))]) := upd_same
        revert s3 eT
        generalize upd H2 T (.tup [.int (0 + (i : Int)), .int (0 + (i : Int) + 1 + (j : Int))]) = H3
        intro s3 eT
        have eD3 := s3 _ _ eD
        have x1 : 0 + (i : Int) = ((i : Nat) : Int) := by omega
        have x2 : 0 + (i : Int) + 1 + (j : Int) = ((i + 1 + j : Nat) : Int) := by omega
        rw [x1] at eT
        rw [show ((i : Nat) : Int) + 1 + (j : Int) = ((i + 1 + j : Nat) : Int) by omega] at eT
        refine ⟨_, eD3, small1000 (by omega), ws' ++ [.ref T], fun b o e => ?_, upd_same, ?_, by rw [List.length_append, hw']; rfl⟩
        · rw [upd_ne (ne_of_none e hD)]
          exact s3 _ _ (s2 _ _ e)
        · rw [range_more, List.map_append, ← List.append_assoc]
          exact PrOk.snoc ((pr.mono fun _ _ => s3 _ _).mono (tupU eD3)) (tupU eD3 _ _ eT)
      · rintro H2 ⟨ws', s2, eD, pr, hw'⟩
        have ej : (((t.length : Nat) : Int) - (0 + (i : Int) + 1)).toNat = t.length - (i + 1) := by omega
        rw [ej] at pr hw'
        refine ⟨ws', s2, eD, ?_, by omega⟩
        rw [range_more, List.flatMap_append]
        have z : [i].flatMap row = row i := by simp
        rw [z]
        exact pr
    · rintro H1 ⟨ws, s1, eD, pr, hw⟩
      rw [en] at pr hw
      have pr' : PrOk H1 ws (pairsBelow t.length) := pr
      refine ⟨_, rfl, D, rfl, ⟨_, SqL.of eD⟩, fun D2 hD2 => lc_list (K := K) (a := D) (xs := ws) (fun i H' => ∃ us, Same H1 H' ∧ H' D2 = some (.lst us) ∧ PrOk H' us (((pairsBelow t.length).take i).filter (selN t m)) ∧ us.length ≤ i) ⟨[], same_new hD2 _, upd_same, .nil, Nat.le_refl _⟩ (fun i H' _ ⟨_, z, _⟩ => SqL.of (z _ _ eD)) ?_ ?_⟩
      · rintro i x H2 hx ⟨us, s2, eU, pu, hu⟩
        obtain ⟨⟨a, b⟩, wa, hps, rfl, swa⟩ := (pr'.mono fun _ _ => s2 _ _).get hx
        have lt : i < ws.length := (List.getElem?_eq_some_iff.mp hx).1
        have hab := pairsBelow_mem (List.mem_of_getElem? hps)
        refine ⟨wa, _, rfl, SqT.of swa, rfl, _, _, rfl, _, _, rfl, rfl, rfl, ?_⟩
        refine ⟨_, rfl, _, rfl, _, rfl, p, t, m, a, b, rfl, mm.same (s1.trans s2), g, hab.1, hab.2, fun u H3 s3 ap => ⟨rfl, _, rfl, ?_⟩⟩
        have eU3 := s3 _ _ eU
        have pu3 := pu.mono fun _ _ => s3 _ _
        rcases ap with ⟨q, bq, _, dq⟩ | ⟨nb, rfl⟩
        · obtain ⟨ua, rfl, _⟩ := letters_dp dq
          have no : selN t m (a, b) = false := selN_no fun z => Bfs.Best.notNone _ _ _ bq z
          refine ⟨us, s2.trans s3, eU3, ?_, by omega⟩
          rw [take_more hps, List.filter_append]
          have z : [(a, b)].filter (selN t m) = [] := by simp [no]
          rw [z, List.append_nil]
          exact pu3
        · have yes := selN_yes nb
          refine ⟨_, rfl, _, rfl, by show 2 ≤ sizeLine; decide, fun T hT => ?_⟩
          have s4 := same_new hT (HO.tup [V.int (a : Nat), V.int (b : Nat)])
          have eT : (upd H3 T (.tup [.int (a : Nat), .int (b : Nat)])) T = some (.tup [.int (a : Nat), .int (b : Nat)]) := upd_same
          revert s4 eT
          generalize upd H3 T (.tup [.int (a : Nat), .int (b : Nat)]) = H4
          intro s4 eT
          have eU4 := s4 _ _ eU3
          refine ⟨_, eU4, small1000 (by omega), us ++ [.ref T], fun b' o e => ?_, upd_same, ?_, by rw [List.length_append]; show us.length + 1 ≤ i + 1; omega⟩
          · rw [upd_ne (ne_of_none e hD2)]
            exact s4 _ _ (s3 _ _ (s2 _ _ e))
          · rw [take_more hps, List.filter_append]
            have z : [(a, b)].filter (selN t m) = [(a, b)] := by simp [yes]
            rw [z]
            exact PrOk.snoc ((pu3.mono fun _ _ => s4 _ _).mono (tupU eU4)) (tupU eU4 _ _ eT)
      · rintro H2 ⟨us, s2, eU, pu, hu⟩
        have e := pr'.len
        rw [e, List.take_length] at pu
        exact k D2 H2 us _ (s1.trans s2) eU pu rfl
end
/-! ### _law_mix: the source is made -/
def spMix (K : PySem.W.Frag) : Sp := fun vs H Q _ => ∃ (a : Addr) (ns : List Int) (seed : Int), vs = [.ref a, .int seed] ∧ SqL K H a (ns.map V.int) ∧ ns.length ≤ 63 ∧ 0 ≤ seed ∧ seed < 2147483647 ∧
  ∀ (h l : Addr) (H' : Hp), Same H H' → H h = none → H l = none → Src H' h l → Q (.ref h) H'
theorem ok_law_mix {f : Addr} {fd : FuncData} (F : Fun K "_law_mix" "_law_mix" s__law_mix f fd) (B : Blt mg) : FnOk P w K mg base CX0 1 f fd P__law_mix (spMix K) := by
  refine F.ok sc__law_mix (fun vs H Q E h => ?_) (fun cdv A outer s H vs Q E hr h => ?_)
  · obtain ⟨a, ns, seed, rfl, _⟩ := h
    rfl
  · obtain ⟨a, ns, seed, rfl, hS, hlen, s0, s1, k⟩ := h
    refine ⟨_, (pss_cons (ps_set (i := 2) sc__law_mix.nd rfl (Or.inl rfl) (pv 1))
 (pss_cons (ps_for PassesOwn.never rfl (k_pil K (pv 0)) (pg_name (i := 3) sc__law_mix.nd rfl (Or.inl rfl))
 (pss_one (ps_set (i := 2) sc__law_mix.nd rfl (Or.inl rfl) (pe_op op_modN (pe_callTy k_int1 (by rfl) B.n_int (by decide +kernel) (pa_cons (pe_op op_add (pe_op op_add (pe_op op_mul (pv 2) pe_int) (pe_op op_modN (pe_callTy k_int1 (by rfl) B.n_int (by decide +kernel) (pa_cons (pv 3) pa_nil)) pe_int)) pe_int) pa_nil)) pe_int))))
 (pss_one (ps_ret (pe_lst (pa_cons (pv 2) (pa_cons (pe_callTy (k_listOf K) (by rfl) B.n_list (by decide +kernel) (pa_cons (pv 0) pa_nil)) (pa_cons pe_int pa_nil)))))))), ?_⟩
    refine ⟨_, rfl, _, rfl, a, rfl, ⟨_, hS⟩, for_list (K := K) (a := a) (xs := ns.map V.int) (fun i σ H' => H' = H ∧ ∃ (st : Int) (v : Option V), σ = [some (.ref a), some (.int seed), some (.int st), v] ∧ 0 ≤ st ∧ st < 2147483647)
      ⟨rfl, seed, none, rfl, s0, s1⟩ (fun i σ H' _ ⟨e, _⟩ => e ▸ hS) ?_ ?_⟩
    · rintro i x σ H' hi ⟨rfl, st, v, rfl, b0, b1⟩
      obtain ⟨n, rfl⟩ : ∃ n, x = V.int n := by
        rw [List.getElem?_map] at hi
        cases e : ns[i]? with
        | none => rw [e] at hi; cases hi
        | some u => rw [e] at hi; exact ⟨u, (Option.some.inj hi).symm⟩
      walk_at "rd"
      exact ⟨rfl, _, _, rfl, Int.fmod_nonneg_of_pos _ (by decide), Int.fmod_lt_of_pos _ (by decide)⟩
    · rintro σ H' ⟨rfl, st, v, rfl, b0, b1⟩
      walk_at "rd"
      refine ⟨a, _, rfl, .inl hS, fun l hl => ⟨by show 3 ≤ sizeLine; decide, fun h hh => ?_⟩⟩
      have hl' : H' h = none := (same_new hl _).free hh
      have lh : l ≠ h := fun z => by rw [← z, upd_same] at hh; cases hh
      refine k h l _ ((same_new hl _).trans (same_new hh _)) hl' hl ⟨lh.symm, st, 0, ns, upd_same, ?_, hlen, b0, b1⟩
      rw [upd_ne lh, upd_same]
/-! ### _law_next: a draw below a cap -/
def spNext : Sp := fun vs H Q _ => ∃ (h l : Addr) (cap : Int), vs = [.ref h, .int cap] ∧ Src H h l ∧ 0 < cap ∧ cap < 1000000 ∧
  ∀ (n : Nat) (H' : Hp), (n : Int) < cap → Src H' h l → Keep h l H H' → Q (.int n) H'
theorem ok_law_next {f : Addr} {fd : FuncData} (F : Fun K "_law_next" "_law_next" s__law_next f fd) (B : Blt mg) : FnOk P w K mg base CX0 1 f fd P__law_next spNext := by
  refine F.ok sc__law_next (fun vs H Q E h => ?_) (fun cdv A outer s H vs Q E hr h => ?_)
  · obtain ⟨h, l, cap, rfl, _⟩ := h
    rfl
  · obtain ⟨h, l, cap, rfl, S, c0, c1, k⟩ := h
    obtain ⟨ne, st, ix, cells, e1, e2, hlen, b0, b1⟩ := id S
    refine ⟨_, (pss_cons (ps_set (i := 2) sc__law_next.nd rfl (Or.inl rfl) (pe_ix (k_ixL K) (pe_op op_cat (pe_ix (k_ixL K) (pv 0) pe_int (fun _ _ => rfl)) (pe_lst (pa_cons pe_int pa_nil))) (pe_op op_modN (pe_callTy k_int1 (by rfl) B.n_int (by decide +kernel) (pa_cons (pe_ix (k_ixL K) (pv 0) pe_int (fun _ _ => rfl)) pa_nil)) (pe_callB (call_max2 rfl) (by rfl) B.n_max (by decide +kernel) (pa_cons pe_int (pa_cons (pe_callB (k_len K) (by rfl) B.n_len boot_len (pa_cons (pe_ix (k_ixL K) (pv 0) pe_int (fun _ _ => rfl)) pa_nil)) pa_nil)))) (fun _ _ => rfl)))
 (pss_cons (ps_if (pt_cmpR op_ge (pv 2) (pe_op op_pow pe_int pe_int) (nomark _)) (pss_cons (ps_asg (pe_op op_fdivN (pv 2) (pv 1)) (pg_sub (pe_ix (k_ixL K) (pv 0) pe_int (fun _ _ => rfl)) (pe_op op_modN (pe_callTy k_int1 (by rfl) B.n_int (by decide +kernel) (pa_cons (pe_ix (k_ixL K) (pv 0) pe_int (fun _ _ => rfl)) pa_nil)) (pe_callB (k_len K) (by rfl) B.n_len boot_len (pa_cons (pe_ix (k_ixL K) (pv 0) pe_int (fun _ _ => rfl)) pa_nil))) set_list))
 (pss_one (ps_ret (pe_op op_modN (pe_callTy k_int1 (by rfl) B.n_int (by decide +kernel) (pa_cons (pv 2) pa_nil)) (pv 1))))) pss_nil)
 (pss_cons (ps_asg (pe_op op_modN (pe_callTy k_int1 (by rfl) B.n_int (by decide +kernel) (pa_cons (pe_op op_add (pe_op op_add (pe_op op_mul (pe_ix (k_ixL K) (pv 0) pe_int (fun _ _ => rfl)) pe_int) (pe_op op_mul (pv 2) pe_int)) pe_int) pa_nil)) pe_int) (pg_sub (pv 0) pe_int set_list))
 (pss_cons (ps_asg (pe_op op_add (pe_ix (k_ixL K) (pv 0) pe_int (fun _ _ => rfl)) pe_int) (pg_sub (pv 0) pe_int set_list))
 (pss_one (ps_ret (pe_op op_modN (pe_callTy k_int1 (by rfl) B.n_int (by decide +kernel) (pa_cons (pe_op op_fdivN (pe_ix (k_ixL K) (pv 0) pe_int (fun _ _ => rfl)) pe_int) pa_nil)) (pv 1)))))))), ?_⟩
    have l_h : ∀ {H' : Hp}, Same H H' → H' h = some (.lst [.int st, .ref l, .int ix]) ∧ H' l = some (.lst (cells.map V.int)) := fun e => ⟨e _ _ e1, e _ _ e2⟩
    have sl : (cells.map V.int).length = cells.length := List.length_map _
    -- the cell
    refine ⟨_, rfl, h, _, _, _, rfl, rfl, SqL.of e1, rfl, by show 1 ≤ sizeLine; decide, fun q hq => ?_⟩
    have s1 : Same H (upd H q (.lst [.int 0])) := same_new hq _
    obtain ⟨f1, f2⟩ := l_h s1
    refine ⟨l, q, _, _, rfl, rfl, f2, upd_same, Nat.le_trans (by rw [sl]; exact Nat.add_le_add_right hlen 1) (by decide : 64 ≤ sizeLine), fun p hp => ?_⟩
    have s2 : Same H (upd (upd H q (.lst [.int 0])) p (.lst (cells.map V.int ++ [.int 0]))) := s1.trans (same_new hp _)
    have gp : (upd (upd H q (.lst [.int 0])) p (.lst (cells.map V.int ++ [.int 0]))) p = some (.lst (cells.map V.int ++ [.int 0])) := upd_same
    revert s2 gp
    generalize upd (upd H q (.lst [.int 0])) p (.lst (cells.map V.int ++ [.int 0])) = H2
    intro s2 gp
    obtain ⟨g1, g2⟩ := l_h s2
    generalize em : (if (((cells.map V.int).length : Nat) : Int) > 1 then (((cells.map V.int).length : Nat) : Int) else 1) = m
    have m0 : 0 < m := by rw [← em, sl]; split <;> omega
    have m1 : m ≤ (((cells ++ [0]).length : Nat) : Int) := by rw [← em, sl, List.length_append, List.length_singleton]; split <;> omega
    have x0 := Int.fmod_nonneg_of_pos ix m0
    have x1 := Int.fmod_lt_of_pos ix m0
    obtain ⟨c, hc, cm⟩ := atI_int (ns := cells ++ [0]) x0 (Int.lt_of_lt_of_le x1 m1)
    rw [List.map_append] at hc
    refine ⟨_, rfl, h, _, _, _, rfl, rfl, SqL.of g1, rfl, .inl ⟨_, rfl, _, rfl, h, _, _, _, rfl, rfl, SqL.of g1, rfl, l, _, rfl, .inl (SqL.of g2), _, _, rfl, _, _, rfl, rfl, ?_, p, _, _, .int c, rfl, rfl, SqL.of gp, ?_, ?_⟩⟩
    · show (if (((cells.map V.int).length : Nat) : Int) > 1 then (((cells.map V.int).length : Nat) : Int) else 1) ≠ 0
      rw [em]
      omega
    · show atI _ (ix.fmod (if (((cells.map V.int).length : Nat) : Int) > 1 then (((cells.map V.int).length : Nat) : Int) else 1)) = _
      rw [em]
      exact hc
    -- is it great
    refine ⟨_, rfl, _, _, rfl, rfl, ⟨by decide, by decide, by decide⟩, _, _, rfl, rfl, _, rfl, ?_⟩
    have hb : (0 : Int) < (10 : Int) ^ (18 : Int).toNat := by decide
    revert hb
    generalize ((10 : Int) ^ (18 : Int).toNat) = big
    intro hb
    refine ite2 (fun t => ?_) (fun t => ?_)
    · have t' : big ≤ c := of_decide_eq_true t
      have nz : 0 < cells.length := by
        rcases List.mem_append.mp cm with z | z
        · exact List.length_pos_of_mem z
        · rw [List.mem_singleton.mp z] at t'
          omega
      have y0 := Int.fmod_nonneg_of_pos ix (b := (cells.length : Int)) (by omega)
      have y1 := Int.fmod_lt_of_pos ix (b := (cells.length : Int)) (by omega)
      refine ⟨_, rfl, _, rfl, _, _, rfl, rfl, ⟨by omega, by omega⟩, _, rfl, h, _, _, _, rfl, rfl, SqL.of g1, rfl, _, rfl, h, _, _, _, rfl, rfl, SqL.of g1, rfl, .inl ⟨_, rfl, _, rfl, h, _, _, _, rfl, rfl, SqL.of g1, rfl, l, _, rfl, .inl (SqL.of g2), _, _, rfl, rfl, ?_, l, _, _, (ix.fmod (cells.length : Int)).toNat, rfl, rfl, g2, ?_, ?_⟩⟩
      · show (((cells.map V.int).length : Nat) : Int) ≠ 0
        rw [sl]
        omega
      · show ixN (cells.map V.int).length (ix.fmod (((cells.map V.int).length : Nat) : Int)) = _
        rw [sl]
        exact ixN_in y0 y1
      refine ⟨_, rfl, .inl ⟨_, rfl, _, rfl, _, _, rfl, rfl, (fun z => by omega), ?_⟩⟩
      have z0 := Int.fmod_nonneg_of_pos c c0
      have z1 := Int.fmod_lt_of_pos c c0
      have ez : c.fmod cap = (((c.fmod cap).toNat : Nat) : Int) := by omega
      show Q (.int (c.fmod cap)) _
      rw [ez]
      refine k _ _ (by omega) ⟨ne, st, ix, cells.set (ix.fmod (cells.length : Int)).toNat (c.fdiv cap), ?_, ?_, ?_, b0, b1⟩ (fun b o n1 n2 e => ?_)
      · rw [upd_ne ne]
        exact g1
      · rw [upd_same, List.map_set]
      · rw [List.length_set]
        exact hlen
      · rw [upd_ne n2]
        exact s2 _ _ e
    · refine ⟨_, rfl, h, _, _, _, rfl, rfl, SqL.of g1, rfl, _, _, rfl, rfl, .inr ⟨by decide, by decide⟩, _, rfl, _, _, rfl, rfl, .inr ⟨by decide, by decide⟩, _, _, rfl, rfl, _, _, rfl, rfl, .inl ⟨_, rfl, _, _, rfl, rfl, (fun z => by omega), _, rfl, h, _, _, 0, rfl, rfl, g1, rfl, ?_⟩⟩
      refine ⟨_, rfl, h, _, _, _, rfl, rfl, SqL.of upd_same, rfl, _, _, rfl, rfl, _, rfl, h, _, _, 2, rfl, rfl, upd_same, rfl, ?_⟩
      refine ⟨_, rfl, h, _, _, _, rfl, rfl, SqL.of upd_same, rfl, _, _, rfl, rfl, ⟨by decide, by decide⟩, .inl ⟨_, rfl, _, rfl, _, _, rfl, rfl, (fun z => by omega), ?_⟩⟩
      obtain ⟨u, ew⟩ : ∃ u, Int.fdiv (Int.fmod (st * 48271 + c * 69621 + 11) 2147483647) 7 = u := ⟨_, rfl⟩
      have z0 := Int.fmod_nonneg_of_pos u c0
      have z1 := Int.fmod_lt_of_pos u c0
      have ez : u.fmod cap = (((u.fmod cap).toNat : Nat) : Int) := by omega
      have go : Q (.int (u.fmod cap)) (upd (upd H2 h (.lst [.int (Int.fmod (st * 48271 + c * 69621 + 11) 2147483647), .ref l, .int ix])) h (.lst [.int (Int.fmod (st * 48271 + c * 69621 + 11) 2147483647), .ref l, .int (ix + 1)])) := by
        rw [ez]
        refine k _ _ (by omega) ⟨ne, _, _, cells, upd_same, ?_, hlen, Int.fmod_nonneg_of_pos _ (by decide), Int.fmod_lt_of_pos _ (by decide)⟩ (fun b o n1 n2 e => ?_)
        · rw [upd_ne ne.symm, upd_ne ne.symm]
          exact g2
        · rw [upd_ne n1, upd_ne n1]
          exact s2 _ _ e
      rw [← ew] at go
      exact go
/-! ### _law_pick: one of some things -/
def spPick : Sp := fun vs H Q _ => ∃ (h l a : Addr) (xs : List V), vs = [.ref h, .ref a] ∧ Src H h l ∧ H a = some (.lst xs) ∧ a ≠ h ∧ a ≠ l ∧ 0 < xs.length ∧ xs.length < 1000000 ∧
  ∀ (v : V) (H' : Hp), v ∈ xs → Src H' h l → Keep h l H H' → Q v H'
theorem ok_law_pick {f : Addr} {fd : FuncData} (F : Fun K "_law_pick" "_law_pick" s__law_pick f fd) (B : Blt mg) (G__law_next : DefK P w K mg base CX0 1 "_law_next" P__law_next spNext) : FnOk P w K mg base CX0 2 f fd P__law_pick spPick := by
  refine F.ok sc__law_pick (fun vs H Q E h => ?_) (fun cdv A outer s H vs Q E hr h => ?_)
  · obtain ⟨h, l, a, xs, rfl, _⟩ := h
    rfl
  · obtain ⟨h, l, a, xs, rfl, S, ea, n1, n2, p0, p1, k⟩ := h
    refine ⟨_, (pss_one (ps_ret (pe_ix (k_ixL K) (pv 1) (pe_def G__law_next (hr.mono (by omega)) (by rfl) (pa_cons (pv 0) (pa_cons (pe_callB (k_len K) (by rfl) B.n_len boot_len (pa_cons (pv 1) pa_nil)) pa_nil))) (fun _ _ => rfl)))), ?_⟩
    refine ⟨_, rfl, _, rfl, _, rfl, a, _, rfl, .inl (SqL.of ea), h, l, xs.length, rfl, S, by omega, by omega, fun n H' hn S' kp => ?_⟩
    obtain ⟨v, e1, _, e3⟩ := atI_at (xs := xs) (i := (n : Int)) (by omega) hn
    exact ⟨a, xs, _, v, rfl, rfl, SqL.of (kp _ _ n1 n2 ea), e1, k v H' e3 S' kp⟩
/-! ### _law_table: a table is drawn -/
def spTable (K : PySem.W.Frag) : Sp := fun vs H Q _ => ∃ (h l : Addr), vs = [.ref h] ∧ Src H h l ∧
  ∀ (v : V) (t : Tab) (m : Nat) (H' : Hp), Good t m → Dp K H' v (tabD t) → Src H' h l → Keep h l H H' → Q v H'
def GoodRow (M m : Nat) (r : List Stp) : Prop := r.length ≤ m ∧ ∀ n x, some (n, x) ∈ r → n < M ∧ x < 4
theorem ok_law_table {f : Addr} {fd : FuncData} (F : Fun K "_law_table" "_law_table" s__law_table f fd) (B : Blt mg) (G__law_next : DefK P w K mg base CX0 1 "_law_next" P__law_next spNext)
    (G__law_pick : DefK P w K mg base CX0 2 "_law_pick" P__law_pick spPick) : FnOk P w K mg base CX0 3 f fd P__law_table (spTable K) := by
  refine F.ok sc__law_table (fun vs H Q E h => ?_) (fun cdv A outer s H vs Q E hr h => ?_)
  · obtain ⟨h, l, rfl, _⟩ := h
    rfl
  · obtain ⟨h, l, rfl, S, k⟩ := h
    refine ⟨_, (pss_cons (ps_par (i := 1) (j := 2) rfl sc__law_table.nd rfl rfl (by decide) rfl rfl (pa_cons (pe_op op_add pe_int (pe_def G__law_next (hr.mono (by omega)) (by rfl) (pa_cons (pv 0) (pa_cons pe_int pa_nil)))) (pa_cons (pe_op op_add pe_int (pe_def G__law_next (hr.mono (by omega)) (by rfl) (pa_cons (pv 0) (pa_cons pe_int pa_nil)))) pa_nil)) rfl)
 (pss_cons (ps_par3 (i := 3) (j := 4) (l := 5) rfl sc__law_table.nd rfl rfl rfl (by decide) (by decide) (by decide) rfl rfl rfl (pa_cons (pe_def G__law_pick (hr.mono (by omega)) (by rfl) (pa_cons (pv 0) (pa_cons (pe_lst (pa_cons pe_int (pa_cons pe_int (pa_cons pe_int (pa_cons pe_int (pa_cons pe_int pa_nil)))))) pa_nil))) (pa_cons (pe_def G__law_pick (hr.mono (by omega)) (by rfl) (pa_cons (pv 0) (pa_cons (pe_lst (pa_cons pe_int (pa_cons pe_int (pa_cons pe_int (pa_cons pe_int (pa_cons pe_int pa_nil)))))) pa_nil))) (pa_cons (pe_def G__law_next (hr.mono (by omega)) (by rfl) (pa_cons (pv 0) (pa_cons pe_int pa_nil))) pa_nil))) (by rfl))
 (pss_cons (ps_set (i := 6) sc__law_table.nd rfl (Or.inl rfl) (pe_lst pa_nil))
 (pss_cons (ps_for PassesOwn.never rfl (pi_range1 (by rfl) B.n_range (pa_cons (pv 1) pa_nil)) (pg_name (i := 7) sc__law_table.nd rfl (Or.inl rfl))
 (pss_cons (ps_set (i := 8) sc__law_table.nd rfl (Or.inl rfl) (pe_lst pa_nil))
 (pss_cons (ps_for PassesOwn.never rfl (pi_range1 (by rfl) B.n_range (pa_cons (pv 2) pa_nil)) (pg_name (i := 9) sc__law_table.nd rfl (Or.inl rfl))
 (pss_cons (ps_par (i := 10) (j := 11) rfl sc__law_table.nd rfl rfl (by decide) rfl rfl (pa_cons (pe_def G__law_next (hr.mono (by omega)) (by rfl) (pa_cons (pv 0) (pa_cons (pv 1) pa_nil))) (pa_cons (pe_def G__law_next (hr.mono (by omega)) (by rfl) (pa_cons (pv 0) (pa_cons (pv 3) pa_nil))) pa_nil)) rfl)
 (pss_mid (ps_if (pt_cmpR op_eq (pv 5) pe_int (nomark _)) (pss_cons (ps_set (i := 10) sc__law_table.nd rfl (Or.inl rfl) (pe_op op_modN (pe_callTy k_int1 (by rfl) B.n_int (by decide +kernel) (pa_cons (pe_op op_add (pv 7) (pv 9)) pa_nil)) (pv 1)))
 (pss_one (ps_set (i := 11) sc__law_table.nd rfl (Or.inl rfl) (pe_ifExp (pt_cmpR op_eq (pv 9) pe_int (nomark _)) (pe_ifExp (pt_cmpR op_eq (pv 7) pe_int (nomark _)) pe_int pe_int) pe_int)))) pss_nil)
 (pss_mid (ps_if (PW.pt (pw_and (pt_cmpR op_eq (pv 5) pe_int (nomark _)) (pw_and1 (pt_cmpR op_eq (pv 9) pe_int (nomark _))))) (pss_one (ps_set (i := 10) sc__law_table.nd rfl (Or.inl rfl) (pe_op op_modN (pe_callTy k_int1 (by rfl) B.n_int (by decide +kernel) (pa_cons (pe_op op_add (pv 7) pe_int) pa_nil)) (pv 1)))) pss_nil)
 (pss_one (ps_expr (pe_bm PySem.F.plainAttrs_list PySem.F.slot_list_append PySem.F.type_list_append mt_append (pv 8) (pa_cons (pe_ifExp (pt_cmpR op_lt (pe_def G__law_next (hr.mono (by omega)) (by rfl) (pa_cons (pv 0) (pa_cons pe_int pa_nil))) (pv 4) (nomark _)) pe_non (pe_tup (pa_cons (pv 10) (pa_cons (pv 11) pa_nil)))) pa_nil))))))))
 (pss_one (ps_expr (pe_bm PySem.F.plainAttrs_list PySem.F.slot_list_append PySem.F.type_list_append mt_append (pv 6) (pa_cons (pe_callTy (k_tupOf K) (by rfl) B.n_tuple (by decide +kernel) (pa_cons (pv 8) pa_nil)) pa_nil)))))))
 (pss_one (ps_ret (pe_callTy (k_tupOf K) (by rfl) B.n_tuple (by decide +kernel) (pa_cons (pv 6) pa_nil)))))))), ?_⟩
    refine ⟨_, rfl, h, l, 6, rfl, S, by decide, by decide, fun n1 H1 b1 S1 k1 => ⟨_, _, rfl, rfl, _, rfl, h, l, 2, rfl, S1, by decide, by decide, fun n2 H2 b2 S2 k2 => ⟨_, _, rfl, rfl, _, _, rfl, ?_⟩⟩⟩
    refine ⟨_, rfl, by show 5 ≤ sizeLine; decide, fun p hp => ⟨h, l, p, _, rfl, S2.same (same_new hp _), upd_same, (S2.neN hp).1, (S2.neN hp).2, by show 0 < 5; decide, by show 5 < 1000000; decide, fun v3 H3 m3 S3 k3 => ?_⟩⟩
    refine ⟨_, rfl, by show 5 ≤ sizeLine; decide, fun p' hp' => ⟨h, l, p', _, rfl, S3.same (same_new hp' _), upd_same, (S3.neN hp').1, (S3.neN hp').2, by show 0 < 5; decide, by show 5 < 1000000; decide, fun v4 H4 m4 S4 k4 => ?_⟩⟩
    refine ⟨_, rfl, h, l, 3, rfl, S4, by decide, by decide, fun n5 H5 b5 S5 k5 => ⟨_, _, _, rfl, ?_⟩⟩
    obtain ⟨cap, rfl, c0, c1⟩ : ∃ cap : Int, v3 = .int cap ∧ 0 < cap ∧ cap ≤ 4 := by
      have z : v3 = .int 1 ∨ v3 = .int 2 ∨ v3 = .int 4 := by simpa using m3
      rcases z with rfl | rfl | rfl
      · exact ⟨1, rfl, by decide, by decide⟩
      · exact ⟨2, rfl, by decide, by decide⟩
      · exact ⟨4, rfl, by decide, by decide⟩
    obtain ⟨lk, rfl⟩ : ∃ lk : Int, v4 = .int lk := by
      have z : v4 = .int 0 ∨ v4 = .int 1 ∨ v4 = .int 3 := by simpa using m4
      rcases z with rfl | rfl | rfl <;> exact ⟨_, rfl⟩
    have kk : Keep h l H H5 := k1.trans (k2.trans ((Keep.of (same_new hp _)).trans (k3.trans ((Keep.of (same_new hp' _)).trans (k4.trans k5)))))
    clear k1 k2 k3 k4 k5 S S1 S2 S3 S4 hp hp' m3 m4
    refine ⟨by show 0 ≤ sizeLine; decide, fun R hR => ?_⟩
    have nR := S5.neN hR
    have kR : Keep h l H (upd H5 R (.lst [])) := kk.trans (.of (same_new hR _))
    refine ⟨_, rfl, _, rfl, by omega, by omega, for_range (lo := 0) (n := (1 + (n1 : Int)).toNat) (fun i σ H' => ∃ (vs : List V) (t : Tab) (u7 u8 u9 u10 u11 : Option V),
      σ = [some (.ref h), some (.int (1 + (n1 : Int))), some (.int (2 + (n2 : Int))), some (.int cap), some (.int lk), some (.int (n5 : Int)), some (.ref R), u7, u8, u9, u10, u11] ∧ Src H' h l ∧ Keep h l H H' ∧
      H' R = some (.lst vs) ∧ DpAll K H' vs (t.map rowD) ∧ t.length = i ∧ ∀ r ∈ t, r.length = 2 + n2 ∧ ∀ n x, some (n, x) ∈ r → n < 1 + n1 ∧ x < 4)
      ⟨[], [], none, none, none, none, none, rfl, S5.same (same_new hR _), kR, upd_same, .nil, rfl, fun _ z => nomatch z⟩ ?_ ?_⟩
    · rintro i σ H6 hi ⟨vs, t, u7, u8, u9, u10, u11, rfl, S6, k6, eR, dR, tl, tg⟩
      refine ⟨by show 0 ≤ sizeLine; decide, fun p hp => ?_⟩
      have np := S6.neN hp
      have Rp : R ≠ p := ne_of_none eR hp
      refine ⟨_, rfl, _, rfl, by omega, by omega, for_range (lo := 0) (n := (2 + (n2 : Int)).toNat) (fun j σ H' => ∃ (rs : List V) (r : List Stp) (u9 u10 u11 : Option V),
        σ = [some (.ref h), some (.int (1 + (n1 : Int))), some (.int (2 + (n2 : Int))), some (.int cap), some (.int lk), some (.int (n5 : Int)), some (.ref R), some (.int (0 + (i : Int))), some (.ref p), u9, u10, u11] ∧ Src H' h l ∧ Keep h l H H' ∧
        H' R = some (.lst vs) ∧ DpAll K H' vs (t.map rowD) ∧ H' p = some (.lst rs) ∧ DpAll K H' rs (r.map stepD) ∧ r.length = j ∧ ∀ n x, some (n, x) ∈ r → n < 1 + n1 ∧ x < 4)
        ⟨[], [], u9, u10, u11, rfl, S6.same (same_new hp _), k6.trans (.of (same_new hp _)), by rw [upd_ne Rp]; exact eR, dps_same (same_new hp _) dR, upd_same, .nil, rfl, fun _ _ z => nomatch z⟩ ?_ ?_⟩
      · rintro j σ H7 hj ⟨rs, r, w9, w10, w11, rfl, S7, k7, eR7, dR7, ep, dr, rl, rg⟩
        refine ⟨_, rfl, _, rfl, h, l, _, rfl, S7, by omega, by omega, fun g H8 bg S8 k8 => ⟨_, rfl, _, rfl, h, l, cap, rfl, S8, c0, by omega, fun q H9 bq S9 k9 => ⟨_, _, rfl, ?_⟩⟩⟩
        have k79 := k8.trans k9
        refine ⟨fun σ H' => H' = H9 ∧ ∃ g q : Int, σ = [some (.ref h), some (.int (1 + (n1 : Int))), some (.int (2 + (n2 : Int))), some (.int cap), some (.int lk), some (.int (n5 : Int)), some (.ref R), some (.int (0 + (i : Int))), some (.ref p), some (.int (0 + (j : Int))), some (.int g), some (.int q)] ∧ 0 ≤ g ∧ g < 1 + (n1 : Int) ∧ 0 ≤ q ∧ q < 4, ?_, ?_⟩
        · refine ⟨_, rfl, rfl, _, rfl, ?_⟩
          refine ite2 (fun _ => ?_) (fun _ => ?_)
          · have f0 := Int.fmod_nonneg_of_pos (0 + (i : Int) + (0 + (j : Int))) (b := 1 + (n1 : Int)) (by omega)
            have f1 := Int.fmod_lt_of_pos (0 + (i : Int) + (0 + (j : Int))) (b := 1 + (n1 : Int)) (by omega)
            refine ⟨_, rfl, _, rfl, _, _, rfl, rfl, .inl ⟨_, rfl, _, rfl, _, _, rfl, rfl, (fun z => by omega), _, rfl, rfl, _, rfl, ?_⟩⟩
            refine ite2 (fun _ => ?_) (fun _ => ⟨rfl, _, _, rfl, f0, f1, by decide, by decide⟩)
            refine ⟨_, rfl, rfl, _, rfl, ?_⟩
            exact ite2 (fun _ => ⟨rfl, _, _, rfl, f0, f1, by decide, by decide⟩) (fun _ => ⟨rfl, _, _, rfl, f0, f1, by decide, by decide⟩)
          · exact ⟨rfl, (g : Int), (q : Int), rfl, by omega, by omega, by omega, by omega⟩
        · rintro σ H' ⟨rfl, g, q, rfl, g0, g1, q0, q1⟩
          refine ⟨fun σ H'' => H'' = H' ∧ ∃ g q : Int, σ = [some (.ref h), some (.int (1 + (n1 : Int))), some (.int (2 + (n2 : Int))), some (.int cap), some (.int lk), some (.int (n5 : Int)), some (.ref R), some (.int (0 + (i : Int))), some (.ref p), some (.int (0 + (j : Int))), some (.int g), some (.int q)] ∧ 0 ≤ g ∧ g < 1 + (n1 : Int) ∧ 0 ≤ q ∧ q < 4, ?_, ?_⟩
          · refine ⟨_, rfl, rfl, _, rfl, ?_⟩
            refine ite2 (fun _ => ⟨_, rfl, rfl, _, rfl, ?_⟩) (fun _ => iteF ⟨rfl, g, q, rfl, g0, g1, q0, q1⟩)
            refine ite2 (fun _ => ?_) (fun _ => ⟨rfl, g, q, rfl, g0, g1, q0, q1⟩)
            refine ⟨_, rfl, _, _, rfl, rfl, .inl ⟨_, rfl, _, rfl, _, _, rfl, rfl, (fun z => by omega), rfl, _, q, rfl, Int.fmod_nonneg_of_pos _ (by omega), Int.fmod_lt_of_pos _ (by omega), q0, q1⟩⟩
          · rintro σ H'' ⟨rfl, g, q, rfl, g0, g1, q0, q1⟩
            have ep9 := k79 _ _ np.1 np.2 ep
            have eR9 := k79 _ _ nR.1 nR.2 eR7
            refine ⟨_, rfl, .inl ⟨rfl, _, SqL.of ep9⟩, _, rfl, h, l, 12, rfl, S9, by decide, by decide, fun d HA bd SA kA => ⟨_, rfl, _, _, rfl, rfl, _, rfl, ?_⟩⟩
            have epA := kA _ _ np.1 np.2 ep9
            have eRA := kA _ _ nR.1 nR.2 eR9
            have kHA : Keep h l H HA := k7.trans (k79.trans kA)
            have hp0 : H p = none := k6.free np.1 np.2 hp
            have dRA : DpAll K HA vs (t.map rowD) := S7.keepDs (k79.trans kA) dR7 (noLs_map noL_row t)
            have drA : DpAll K HA rs (r.map stepD) := S7.keepDs (k79.trans kA) dr (noLs_map noL_step r)
            have lrs : rs.length = r.length := by rw [dps_len dr, List.length_map]
            refine ite2 (fun _ => ?_) (fun _ => ?_)
            · refine ⟨p, _, _, rfl, rfl, epA, small1000 (by omega), rs ++ [.non], r ++ [none], _, _, _, rfl, SA.upd np.1 np.2, kHA.upd hp0, ?_, ?_, upd_same, ?_, ?_, ?_⟩
              · rw [upd_ne Rp]; exact eRA
              · exact dps_upd epA dRA (noLs_map noL_row t)
              · rw [List.map_append]
                exact dps_snoc (dps_upd epA drA (noLs_map noL_step r)) .non
              · rw [List.length_append, List.length_singleton, rl]
              · intro n x hm
                rcases List.mem_append.mp hm with hm | hm
                · exact rg n x hm
                · simp at hm
            · refine ⟨_, rfl, _, rfl, by show 2 ≤ sizeLine; decide, fun T hT => ?_⟩
              have sT := same_new hT (HO.tup [V.int g, V.int q])
              have pT : p ≠ T := ne_of_none epA hT
              have epT : (upd HA T (.tup [.int g, .int q])) p = some (.lst rs) := by rw [upd_ne pT]; exact epA
              refine ⟨p, _, _, rfl, rfl, epT, small1000 (by omega), rs ++ [.ref T], r ++ [some (g.toNat, q.toNat)], _, _, _, rfl, (SA.same sT).upd np.1 np.2, (kHA.trans (.of sT)).upd hp0, ?_, ?_, upd_same, ?_, ?_, ?_⟩
              · rw [upd_ne Rp]; exact sT _ _ eRA
              · exact dps_upd epT (dps_same sT dRA) (noLs_map noL_row t)
              · rw [List.map_append]
                refine dps_snoc (dps_upd epT (dps_same sT drA) (noLs_map noL_step r)) ?_
                have z : SqT K (upd (upd HA T (.tup [.int g, .int q])) p (.lst (rs ++ [.ref T]))) T [.int g, .int q] := SqT.of (by rw [upd_ne pT.symm, upd_same])
                show Dp K _ _ (.tuple [.int ((g.toNat : Nat) : Int), .int ((q.toNat : Nat) : Int)])
                rw [Int.toNat_of_nonneg g0, Int.toNat_of_nonneg q0]
                exact .tup z (.cons (.int _) (.cons (.int _) .nil))
              · rw [List.length_append, List.length_singleton, rl]
              · intro n x hm
                rcases List.mem_append.mp hm with hm | hm
                · exact rg n x hm
                · simp at hm
                  omega
      · rintro σ H7 ⟨rs, r, w9, w10, w11, rfl, S7, k7, eR7, dR7, ep, dr, rl, rg⟩
        refine ⟨_, rfl, .inl ⟨rfl, _, SqL.of eR7⟩, _, rfl, p, _, rfl, .inl ⟨SqL.of ep, fun T hT => ?_⟩⟩
        have sT := same_new hT (HO.tup rs)
        have RT : R ≠ T := ne_of_none eR7 hT
        have eRT : (upd H7 T (.tup rs)) R = some (.lst vs) := by rw [upd_ne RT]; exact eR7
        have lvs : vs.length = t.length := by rw [dps_len dR7, List.length_map]
        have hR0 : H R = none := kk.free nR.1 nR.2 hR
        refine ⟨R, _, _, rfl, rfl, eRT, small1000 (by omega), vs ++ [.ref T], t ++ [r], _, _, _, _, _, rfl, (S7.same sT).upd nR.1 nR.2, (k7.trans (.of sT)).upd hR0, upd_same, ?_, ?_, ?_⟩
        · rw [List.map_append]
          refine dps_snoc (dps_upd eRT (dps_same sT dR7) (noLs_map noL_row t)) ?_
          exact .tup (SqT.of (by rw [upd_ne RT.symm, upd_same])) (dps_upd eRT (dps_same sT dr) (noLs_map noL_step r))
        · rw [List.length_append, List.length_singleton, tl]
        · intro r' hm
          rcases List.mem_append.mp hm with hm | hm
          · exact tg r' hm
          · rw [List.mem_singleton.mp hm]
            exact ⟨by omega, rg⟩
    · rintro σ H6 ⟨vs, t, u7, u8, u9, u10, u11, rfl, S6, k6, eR, dR, tl, tg⟩
      refine ⟨_, rfl, R, _, rfl, .inl ⟨SqL.of eR, fun T hT => ?_⟩⟩
      have sT := same_new hT (HO.tup vs)
      have tl' : t.length = 1 + n1 := by omega
      exact k (.ref T) t (2 + n2) _ ⟨by omega, by omega, by omega, fun r hm => (tg r hm).1, fun r hm n x hx => by rw [tl']; exact (tg r hm).2 n x hx⟩ (.tup (SqT.of upd_same) (dps_same sT dR)) (S6.same sT) (k6.trans (.of sT))
/-! ### _law_walk: where a row leads, by the law -/
def spLWalk (K : PySem.W.Frag) : Sp := fun vs H Q _ => ∃ (vt vr : V) (t : Tab) (m n : Nat) (r : List Nat), vs = [vt, .int (n : Nat), vr] ∧ Good t m ∧ Dp K H vt (tabD t) ∧ n < t.length ∧ Dp K H vr (lettersD r) ∧ (∀ c ∈ r, c < m) ∧ r.length ≤ 10000 ∧
  ∀ (v : V) (H' : Hp), Same H H' → Dp K H' v (walkD (walkF t n r)) → Q v H'
theorem ok_law_walk {f : Addr} {fd : FuncData} (F : Fun K "_law_walk" "_law_walk" s__law_walk f fd) (B : Blt mg) : FnOk P w K mg base CX0 1 f fd P__law_walk (spLWalk K) := by
  refine F.ok sc__law_walk (fun vs H Q E h => ?_) (fun cdv A outer s H vs Q E hr h => ?_)
  · obtain ⟨vt, vr, t, m, n, r, rfl, _⟩ := h
    rfl
  · obtain ⟨vt, vr, t, m, n, r, rfl, g, dt, hn, dr, hc, hl, k⟩ := h
    refine ⟨_, (pss_cons (ps_par (i := 3) (j := 4) rfl sc__law_walk.nd rfl rfl (by decide) rfl rfl (pa_cons (pv 1) (pa_cons (pe_tup pa_nil) pa_nil)) rfl)
 (pss_cons (ps_for PassesOwn.never rfl (k_pit K (pv 2)) (pg_name (i := 5) sc__law_walk.nd rfl (Or.inl rfl))
 (pss_cons (ps_set (i := 6) sc__law_walk.nd rfl (Or.inl rfl) (pe_ix (k_ixT K) (pe_ix (k_ixT K) (pv 0) (pv 3) (fun _ _ => rfl)) (pv 5) (fun _ _ => rfl)))
 (pss_cons (ps_if (pt_cmpR op_isN (pv 6) pe_non (nomark _)) (pss_one (ps_ret pe_non)) pss_nil)
 (pss_one (ps_par (i := 3) (j := 4) rfl sc__law_walk.nd rfl rfl (by decide) rfl rfl (pa_cons (pe_ix (k_ixT K) (pv 6) pe_int (fun _ _ => rfl)) (pa_cons (pe_op (k_catT K) (pv 4) (pe_tup (pa_cons (pe_ix (k_ixT K) (pv 6) pe_int (fun _ _ => rfl)) pa_nil))) pa_nil)) rfl)))))
 (pss_one (ps_ret (pe_tup (pa_cons (pv 3) (pa_cons (pv 4) pa_nil))))))), ?_⟩
    obtain ⟨ra, rxs, rfl, sr, ar⟩ := dp_tup (show Dp K H vr (.tuple (r.map fun (c : Nat) => PyData.int (c : Int))) from dr)
    have er : rxs = (r.map fun (c : Nat) => (c : Int)).map V.int := dps_intsV (by rw [List.map_map]; exact ar)
    subst er
    have lr : ((r.map fun (c : Nat) => (c : Int)).map V.int).length = r.length := by rw [List.length_map, List.length_map]
    refine ⟨_, rfl, by show 0 ≤ sizeLine; decide, fun p hp => ⟨_, _, rfl, ?_⟩⟩
    have s1 := same_new hp (HO.tup [])
    refine ⟨_, rfl, ra, rfl, ⟨_, seqT s1 sr⟩, for_tup (K := K) (a := ra) (xs := (r.map fun (c : Nat) => (c : Int)).map V.int) (fun i σ H' => ∃ (q : Nat) (ws : List Nat) (sa : Addr) (u5 u6 : Option V), Same H H' ∧ walkF t n (r.take i) = some (q, ws) ∧ q < t.length ∧
      σ = [some vt, some (.int (n : Nat)), some (.ref ra), some (.int (q : Nat)), some (.ref sa), u5, u6] ∧ SqT K H' sa ((ws.map fun (c : Nat) => (c : Int)).map V.int) ∧ ws.length = i)
      ⟨n, [], p, none, none, s1, rfl, hn, rfl, SqT.of upd_same, rfl⟩ (fun i σ H' _ ⟨_, _, _, _, _, e, _⟩ => seqT e sr) ?_ ?_⟩
    · rintro i x σ H' hi ⟨q, ws, sa, u5, u6, e, hw, hq, rfl, hs, lw⟩
      rw [List.getElem?_map, List.getElem?_map] at hi
      obtain ⟨c, hci, rfl⟩ : ∃ c : Nat, r[i]? = some c ∧ x = .int (c : Nat) := by
        cases z : r[i]? with
        | none => rw [z] at hi; cases hi
        | some c => rw [z] at hi; exact ⟨c, rfl, (Option.some.inj hi).symm⟩
      have hcm := hc c (List.mem_of_getElem? hci)
      obtain ⟨a, xs, b, ys, z, rfl, h1, _, e1, h2, _, e2, dz⟩ := tab_at g (dp_same e dt) hq hcm
      have il : i < r.length := (List.getElem?_eq_some_iff.mp hci).1
      have more : walkF t n (r.take (i + 1)) = (stepAt t q c).map fun y => (y.1, ws ++ [y.2]) := by
        rw [take_more hci, walk_some t _ _ _ _ _ hw, walk_one]
        cases stepAt t q c with
        | none => rfl
        | some y => rfl
      refine ⟨_, rfl, _, rfl, a, xs, _, _, rfl, rfl, h1, e1, _, rfl, b, ys, _, z, rfl, rfl, h2, e2, _, rfl, rfl, _, rfl, ?_⟩
      cases es : stepAt t q c with
      | none =>
        rw [es] at dz more
        rw [dp_non dz]
        refine iteT ?_
        have full : walkF t n r = none := by
          have z := walk_none t _ (r.drop (i + 1)) n more
          rw [List.take_append_drop] at z
          exact z
        exact k .non H' e (by rw [full]; exact .non)
      | some y =>
        obtain ⟨q', o⟩ := y
        rw [es] at dz more
        obtain ⟨ya, yxs, rfl, y1, y2, y3, _⟩ := step_at dz
        refine iteF ?_
        have gd := stepAt_good g es
        refine ⟨_, rfl, ya, yxs, _, _, rfl, rfl, y1, y2, _, rfl, _, rfl, ya, yxs, _, _, rfl, rfl, y1, y3, by show 1 ≤ sizeLine; decide, fun T hT => ?_⟩
        refine catA_ok (seqT (same_new hT _) hs) (SqT.of upd_same) (by rw [List.length_map, List.length_map]; exact Nat.le_of_lt (by rw [sizeLine_eq]; show ws.length + 1 < _; omega)) (fun na H2 s2 hs2 => ?_)
        refine ⟨_, _, rfl, q', ws ++ [o], na, _, _, e.trans ((same_new hT _).trans s2), more, gd.1, rfl, ?_, by rw [List.length_append, lw]; rfl⟩
        rw [List.map_append, List.map_append]
        exact hs2
    · rintro σ H' ⟨q, ws, sa, u5, u6, e, hw, hq, rfl, hs, lw⟩
      refine ⟨_, rfl, _, rfl, by show 2 ≤ sizeLine; decide, fun T hT => ?_⟩
      rw [lr, List.take_length] at hw
      refine k _ _ (e.trans (same_new hT _)) ?_
      rw [hw]
      refine .tup (SqT.of upd_same) (.cons (.int _) (.cons (.tup (seqT (same_new hT _) hs) ?_) .nil))
      have z := dps_ints (K := K) (H := upd H' T (.tup [.int (q : Nat), .ref sa])) (ws.map fun (c : Nat) => (c : Int))
      rw [List.map_map] at z
      rw [List.map_map] at z
      rw [List.map_map]
      exact z
/-! ### _law_alike: equal data are alike -/
/-- with n calls -/
def spAlike (K : PySem.W.Frag) : Nat → Sp
  | 0 => fun _ _ _ _ => False
  | n + 1 => fun vs H Q _ => ∃ (u v : V) (d : PyData), vs = [u, v] ∧ Dp K H u d ∧ Dp K H v d ∧ okD n d = true ∧ ∀ H', Same H H' → Q (.bl true) H'
theorem ok_law_alike {f : Addr} {fd : FuncData} (F : Fun K "_law_alike" "_law_alike" s__law_alike f fd) (B : Blt mg) (hm : mg "_law_alike" = some (.ref f)) (hb : Binds K fd P__law_alike []) : ∀ n : Nat, FnOk P w K mg base CX0 n f fd P__law_alike (spAlike K n)
  | 0 => ⟨fun _ _ _ _ h => h.elim, fun _ _ _ _ _ _ _ _ _ _ _ _ _ h => h.elim⟩
  | n + 1 => by
    have G__law_alike : DefK P w K mg base CX0 n "_law_alike" P__law_alike (spAlike K n) := ⟨f, fd, ok_law_alike F B hm hb n, hm, F.kp, hb⟩
    refine F.ok sc__law_alike (fun vs H Q E h => ?_) (fun cdv A outer s H vs Q E hr h => ?_)
    · obtain ⟨u, v, d, rfl, _⟩ := h
      rfl
    · obtain ⟨u, v, d, rfl, du, dv, ok, k⟩ := h
      refine ⟨_, (pss_cons (ps_if (pt_val (pe_callB (k_isiT K) (by rfl) B.n_isinstance (by decide +kernel) (pa_cons (pv 1) (pa_cons (pe_tup (pa_cons (pe_bltn (v := .ty "tuple") (u := .type "tuple") (by rfl) B.n_tuple (by decide +kernel) rfl) (pa_cons (pe_bltn (v := .ty "list") (u := .type "list") (by rfl) B.n_list (by decide +kernel) rfl) pa_nil))) pa_nil)))) (pss_cons (ps_if (PW.pt (pw_or (pt_not (pt_val (pe_callB (k_isiT K) (by rfl) B.n_isinstance (by decide +kernel) (pa_cons (pv 0) (pa_cons (pe_tup (pa_cons (pe_bltn (v := .ty "tuple") (u := .type "tuple") (by rfl) B.n_tuple (by decide +kernel) rfl) (pa_cons (pe_bltn (v := .ty "list") (u := .type "list") (by rfl) B.n_list (by decide +kernel) rfl) pa_nil))) pa_nil))))) (pw_or1 (pt_cmpR op_ne (pe_callB (k_isi K) (by rfl) B.n_isinstance (by decide +kernel) (pa_cons (pv 0) (pa_cons (pe_bltn (v := .ty "list") (u := .type "list") (by rfl) B.n_list (by decide +kernel) rfl) pa_nil))) (pe_callB (k_isi K) (by rfl) B.n_isinstance (by decide +kernel) (pa_cons (pv 1) (pa_cons (pe_bltn (v := .ty "list") (u := .type "list") (by rfl) B.n_list (by decide +kernel) rfl) pa_nil))) (nomark _))))) (pss_one (ps_ret pe_bl)) pss_nil)
 (pss_cons (ps_if (pt_cmpR op_ne (pe_callB (k_len K) (by rfl) B.n_len boot_len (pa_cons (pv 0) pa_nil)) (pe_callB (k_len K) (by rfl) B.n_len boot_len (pa_cons (pv 1) pa_nil)) (nomark _)) (pss_one (ps_ret pe_bl)) pss_nil)
 (pss_one (ps_ret (pe_cmpR (k_eqD K hr.units) (pe_lc (own := ([("_law_k", 2)] : List (Str × Nat))) (g := gName 2) rfl sc__law_alike.nd (pi_range1 (by rfl) B.n_range (pa_cons (pe_callB (k_len K) (by rfl) B.n_len boot_len (pa_cons (pv 1) pa_nil)) pa_nil)) (blkOk_by (own := ([("_law_k", 2)] : List (Str × Nat))) (N := N__law_alike) (sc := defScope s__law_alike) (by decide +kernel)) (fun _ _ _ _ _ => by exact (pg_name (i := 2) sc__law_alike.nd rfl (Or.inl rfl))) (fun _ _ _ _ _ => by exact (pts_one (pt_not (pt_val (pe_def G__law_alike (hr.mono (by omega)) (by rfl) (pa_cons (pe_ix (k_ixQ K) (pv 0) (pv 2) (fun _ _ => rfl)) (pa_cons (pe_ix (k_ixQ K) (pv 1) (pv 2) (fun _ _ => rfl)) pa_nil))))))) (fun _ _ _ _ _ => by exact (pv 2))) (pe_lst pa_nil) (nomark _)))))) pss_nil)
 (pss_cons (ps_if (PW.pt (pw_or (pt_cmpR op_isN (pv 1) pe_non (nomark _)) (pw_or1 (pt_val (pe_callB (k_isi K) (by rfl) B.n_isinstance (by decide +kernel) (pa_cons (pv 1) (pa_cons (pe_bltn (v := .ty "str") (u := .type "str") (by rfl) B.n_str (by decide +kernel) rfl) pa_nil))))))) (pss_one (ps_ret (pe_and (pe_cmpR (k_eqD K hr.units) (pv 0) (pv 1) (nomark _)) (pe_one (pe_cmpR op_eq (pe_callB (k_isi K) (by rfl) B.n_isinstance (by decide +kernel) (pa_cons (pv 0) (pa_cons (pe_bltn (v := .ty "str") (u := .type "str") (by rfl) B.n_str (by decide +kernel) rfl) pa_nil))) (pe_callB (k_isi K) (by rfl) B.n_isinstance (by decide +kernel) (pa_cons (pv 1) (pa_cons (pe_bltn (v := .ty "str") (u := .type "str") (by rfl) B.n_str (by decide +kernel) rfl) pa_nil))) (nomark _)))))) pss_nil)
 (pss_one (ps_ret (pe_and (pe_callB (k_isi K) (by rfl) B.n_isinstance (by decide +kernel) (pa_cons (pv 0) (pa_cons (pe_bltn (v := .ty "int") (u := .type "int") (by rfl) B.n_int (by decide +kernel) rfl) pa_nil))) (pe_and (pe_cmpR op_eq (pe_callB (k_isi K) (by rfl) B.n_isinstance (by decide +kernel) (pa_cons (pv 0) (pa_cons (pe_bltn (v := .ty "bool") (u := .type "bool") (by rfl) B.n_bool (by decide +kernel) rfl) pa_nil))) (pe_callB (k_isi K) (by rfl) B.n_isinstance (by decide +kernel) (pa_cons (pv 1) (pa_cons (pe_bltn (v := .ty "bool") (u := .type "bool") (by rfl) B.n_bool (by decide +kernel) rfl) pa_nil))) (nomark _)) (pe_one (pe_cmpR (k_eqD K hr.units) (pv 0) (pv 1) (nomark _))))))))), ?_⟩
      have tu := dp_ty du
      have tv := dp_ty dv
      obtain ⟨bt, bl, e1, e2, h1, h2⟩ : ∃ bt bl : Bool, kitB (tyD d) "tuple" = some bt ∧ kitB (tyD d) "list" = some bl ∧
          ((bt || bl) = true → ∃ (j : Nat) (ds : List PyData) (a b : Addr) (xs ys : List V), n = j + 1 ∧ u = .ref a ∧ v = .ref b ∧ ((SqL K H a xs ∧ SqL K H b ys) ∨ (SqT K H a xs ∧ SqT K H b ys)) ∧ DpAll K H xs ds ∧ DpAll K H ys ds ∧ ds.length ≤ 1000000 ∧ ∀ d ∈ ds, okD j d = true) ∧
          ((bt || bl) = false → SeqAt.shaped d = true ∧ ∃ b3 b4 b5 : Bool, kitB (tyD d) "str" = some b3 ∧ kitB (tyD d) "int" = some b4 ∧ kitB (tyD d) "bool" = some b5 ∧ ((decide (v = V.non) || b3) = false → b4 = true)) := by
        cases du with
        | non =>
          cases dv
          exact ⟨false, false, (show kitB "NoneType" "tuple" = some false by decide +kernel), (show kitB "NoneType" "list" = some false by decide +kernel), fun z => (nomatch z), fun _ => ⟨rfl, false, false, false, (show kitB "NoneType" "str" = some false by decide +kernel), (show kitB "NoneType" "int" = some false by decide +kernel), (show kitB "NoneType" "bool" = some false by decide +kernel), fun z => by simp at z⟩⟩
        | bl b => exact ⟨false, false, (show kitB "bool" "tuple" = some false by decide +kernel), (show kitB "bool" "list" = some false by decide +kernel), fun z => (nomatch z), fun _ => ⟨rfl, false, true, true, (show kitB "bool" "str" = some false by decide +kernel), (show kitB "bool" "int" = some true by decide +kernel), (show kitB "bool" "bool" = some true by decide +kernel), fun _ => rfl⟩⟩
        | int b => exact ⟨false, false, (show kitB "int" "tuple" = some false by decide +kernel), (show kitB "int" "list" = some false by decide +kernel), fun z => (nomatch z), fun _ => ⟨rfl, false, true, false, (show kitB "int" "str" = some false by decide +kernel), (show kitB "int" "int" = some true by decide +kernel), (show kitB "int" "bool" = some false by decide +kernel), fun _ => rfl⟩⟩
        | str b => exact ⟨false, false, (show kitB "str" "tuple" = some false by decide +kernel), (show kitB "str" "list" = some false by decide +kernel), fun z => (nomatch z), fun _ => ⟨by
            have z := okD_can n _ ok
            unfold SeqAt.shaped
            rw [z]
            rfl, true, false, false, (show kitB "str" "str" = some true by decide +kernel), (show kitB "str" "int" = some false by decide +kernel), (show kitB "str" "bool" = some false by decide +kernel), fun z => by simp at z⟩⟩
        | lst s1 a1 =>
          obtain ⟨b, ys, rfl, s2, a2⟩ := dp_lst dv
          cases n with
          | zero => simp [okD] at ok
          | succ j =>
            simp only [okD, Bool.and_eq_true, decide_eq_true_eq, List.all_eq_true] at ok
            exact ⟨false, true, (show kitB "list" "tuple" = some false by decide +kernel), (show kitB "list" "list" = some true by decide +kernel), fun _ => ⟨j, _, _, b, _, ys, rfl, rfl, rfl, .inl ⟨s1, s2⟩, a1, a2, ok.1, ok.2⟩, fun z => (nomatch z)⟩
        | tup s1 a1 =>
          obtain ⟨b, ys, rfl, s2, a2⟩ := dp_tup dv
          cases n with
          | zero => simp [okD] at ok
          | succ j =>
            simp only [okD, Bool.and_eq_true, decide_eq_true_eq, List.all_eq_true] at ok
            exact ⟨true, false, (show kitB "tuple" "tuple" = some true by decide +kernel), (show kitB "tuple" "list" = some false by decide +kernel), fun _ => ⟨j, _, _, b, _, ys, rfl, rfl, rfl, .inr ⟨s1, s2⟩, a1, a2, ok.1, ok.2⟩, fun z => (nomatch z)⟩
      -- isinstance(due, (tuple, list))
      refine ⟨_, rfl, by show 2 ≤ sizeLine; decide, fun p hp => ⟨v, p, _, _, _, bt || bl, rfl, upd_same, .cons (.ty _) (.cons (.ty _) .nil), (tv.same (same_new hp _)).ty, kit2 e1 e2, _, rfl, ?_⟩⟩
      have sp := same_new hp (HO.tup [V.ty "tuple", V.ty "list"])
      cases eb : (bt || bl) with
      | true =>
        obtain ⟨j, ds, a, b, xs, ys, rfl, rfl, rfl, hs, a1, a2, hl, hd⟩ := h1 eb
        have lx := dps_len a1
        have ly := dps_len a2
        refine ⟨_, rfl, by show 2 ≤ sizeLine; decide, fun p2 hp2 => ⟨.ref a, p2, _, _, _, bt || bl, rfl, upd_same, .cons (.ty _) (.cons (.ty _) .nil), ((tu.same sp).same (same_new hp2 _)).ty, kit2 e1 e2, _, rfl, ?_⟩⟩
        rw [eb]
        have s2 := sp.trans (same_new hp2 (HO.tup [V.ty "tuple", V.ty "list"]))
        revert s2
        generalize upd (upd H p (.tup [V.ty "tuple", V.ty "list"])) p2 (.tup [V.ty "tuple", V.ty "list"]) = H2
        intro s2
        have hx : SqL K H2 a xs ∨ SqT K H2 a xs := hs.elim (fun z => .inl (s2.seq z.1)) fun z => .inr (seqT s2 z.1)
        have hy : SqL K H2 b ys ∨ SqT K H2 b ys := hs.elim (fun z => .inl (s2.seq z.2)) fun z => .inr (seqT s2 z.2)
        refine ⟨_, rfl, _, _, _, _, bl, rfl, .ty _, (tu.same s2).ty, kit_any e2, _, rfl, _, _, _, _, bl, rfl, .ty _, (tv.same s2).ty, kit_any e2, by cases bl <;> rfl, !decide (V.bl bl = V.bl bl), rfl, ?_⟩
        rw [decide_eq_true rfl]
        refine ⟨_, rfl, a, xs, rfl, hx, _, rfl, b, ys, rfl, hy, rfl, !decide (V.int (xs.length : Nat) = V.int (ys.length : Nat)), rfl, ?_⟩
        rw [decide_eq_true (by rw [lx, ly])]
        refine ⟨_, rfl, b, ys, rfl, hy, _, rfl, by omega, by omega, fun D hD => lc_range (lo := 0) (n := ((ys.length : Nat) : Int).toNat) (fun i H' => Same H2 H' ∧ H' D = some (.lst [])) ⟨same_new hD _, upd_same⟩ ?_ ?_⟩
        · rintro i H3 hi ⟨s3, eD⟩
          have ix : i < xs.length := by omega
          have iy : i < ys.length := by omega
          obtain ⟨x, qx⟩ : ∃ x, xs[i]? = some x := ⟨_, List.getElem?_eq_getElem ix⟩
          obtain ⟨y, qy⟩ : ∃ y, ys[i]? = some y := ⟨_, List.getElem?_eq_getElem iy⟩
          obtain ⟨dd, qd, dx⟩ := dps_getV (dps_same (s2.trans s3) a1) qx
          obtain ⟨dd', qd', dy⟩ := dps_getV (dps_same (s2.trans s3) a2) qy
          have ed : dd = dd' := Option.some.inj (qd.symm.trans qd')
          subst ed
          have ix' : atI xs (0 + (i : Int)) = some x := by rw [Int.zero_add]; exact atI_nat qx
          have iy' : atI ys (0 + (i : Int)) = some y := by rw [Int.zero_add]; exact atI_nat qy
          refine ⟨rfl, ?_⟩
          have s23 := s2.trans s3
          refine ⟨_, rfl, _, rfl, ixQ_ok (seqQ s3 hx) ix' ⟨_, rfl, _, rfl, ixQ_ok (seqQ s3 hy) iy' ⟨x, y, dd, rfl, dx, dy, hd dd (List.mem_of_getElem? qd), fun H4 s4 => ⟨_, rfl, s3.trans s4, s4 _ _ eD⟩⟩⟩⟩
        · rintro H3 ⟨s3, eD⟩
          refine ⟨by show 0 ≤ sizeLine; decide, fun q hq => ⟨.list [], .list [], .lst (SqL.of (same_new hq _ _ _ eD)) .nil, .lst (SqL.of upd_same) .nil, rfl, rfl, k _ (s2.trans (s3.trans (same_new hq _)))⟩⟩
      | false =>
        obtain ⟨sh, b3, b4, b5, e3, e4, e5, alt⟩ := h2 eb
        have eqv : PyData.eqv d d = true := SeqAt.eqv_refl d (okD_can n d ok)
        have su := tu.same sp
        have sv := tv.same sp
        have dus := dp_same sp du
        have dvs := dp_same sp dv
        have fin : ∀ H', H' = upd H p (.tup [V.ty "tuple", V.ty "list"]) → Q (.bl true) H' := fun H' e => e ▸ k _ sp
        refine ⟨_, rfl, rfl, _, rfl, ?_⟩
        have way1 : ∀ (tt : TS) (D : Ends), tt = tt := fun _ _ => rfl
        by_cases hv : v = .non
        · subst hv
          cases dv
          cases du
          rw [decide_eq_true rfl]
          exact ⟨_, rfl, _, rfl, .none, .none, .non, .non, rfl, rfl, _, rfl, _, rfl, _, _, _, _, false, rfl, .ty _, (AnyV.non).ty, kit_any (show kitB "NoneType" "str" = some false by decide +kernel), _, rfl, _, _, _, _, false, rfl, .ty _, (AnyV.non).ty, kit_any (show kitB "NoneType" "str" = some false by decide +kernel), rfl, fin _ rfl⟩
        · rw [decide_eq_false hv]
          refine ⟨_, rfl, _, _, _, _, b3, rfl, .ty _, sv.ty, kit_any e3, _, rfl, ?_⟩
          cases b3 with
          | true =>
            refine ⟨_, rfl, _, rfl, d, d, dus, dvs, sh, sh, _, rfl, ?_⟩
            rw [eqv]
            refine ⟨_, rfl, _, _, _, _, true, rfl, .ty _, su.ty, kit_any e3, _, rfl, _, _, _, _, true, rfl, .ty _, sv.ty, kit_any e3, rfl, fin _ rfl⟩
          | false =>
            have e4' := alt (by rw [decide_eq_false hv]; rfl)
            subst e4'
            refine ⟨_, rfl, _, _, _, _, true, rfl, .ty _, su.ty, kit_any e4, _, rfl, ?_⟩
            refine ⟨_, rfl, _, _, _, _, b5, rfl, .ty _, su.ty, kit_any e5, _, rfl, _, _, _, _, b5, rfl, .ty _, sv.ty, kit_any e5, by cases b5 <;> rfl, _, rfl, ?_⟩
            rw [decide_eq_true rfl]
            refine ⟨_, rfl, _, rfl, d, d, dus, dvs, sh, sh, ?_⟩
            rw [eqv]
            exact fin _ rfl
/-! ### _law_far -/
def spFar (K : PySem.W.Frag) : Sp := fun vs H Q _ => ∃ (vt : V) (t : Tab) (m a b : Nat), vs = [vt, .int (a : Nat), .int (b : Nat)] ∧ Dp K H vt (tabD t) ∧ Good t m ∧ a < t.length ∧ b < t.length ∧ ∀ (v : V) (H' : Hp), Same H H' → apartsL K t m (a, b) H' v → Q v H'
theorem ok_law_far {f : Addr} {fd : FuncData} (F : Fun K "_law_far" "_law_far" s__law_far f fd) (B : Blt mg) : FnOk P w K mg base CX0 1 f fd P__law_far (spFar K) := by
  refine F.ok sc__law_far (fun vs H Q E h => ?_) (fun cdv A outer s H vs Q E hr h => ?_)
  · obtain ⟨vt, t, m, a, b, rfl, _⟩ := h
    rfl
  · obtain ⟨vt, t, m, a, b, rfl, dt, g, ha, hb, k⟩ := h
    refine ⟨_, (pss_cons (ps_par (i := 3) (j := 4) rfl sc__law_far.nd rfl rfl (by decide) rfl rfl (pa_cons (pe_dispT (hu_of hr) (pe_tup (pa_cons (pv 1) (pa_cons (pv 2) pa_nil))) (pe_tup pa_nil)) (pa_cons (pe_lst (pa_cons (pe_tup (pa_cons (pv 1) (pa_cons (pv 2) pa_nil))) pa_nil)) pa_nil)) rfl)
 (pss_cons (ps_for PassesOwn.never rfl (pi_range1 (by rfl) B.n_range (pa_cons pe_int pa_nil)) (pg_name (i := 5) sc__law_far.nd rfl (Or.inl rfl))
 (pss_cons (ps_set (i := 6) sc__law_far.nd rfl (Or.inl rfl) (pe_lst pa_nil))
 (pss_cons (ps_for PassesOwn.never rfl (k_pil K (pv 4)) (pg_name (i := 7) sc__law_far.nd rfl (Or.inl rfl))
 (pss_one (ps_for PassesOwn.never rfl (pi_range1 (by rfl) B.n_range (pa_cons (pe_callB (k_len K) (by rfl) B.n_len boot_len (pa_cons (pe_ix (k_ixT K) (pv 0) pe_int (fun _ _ => rfl)) pa_nil)) pa_nil)) (pg_name (i := 8) sc__law_far.nd rfl (Or.inl rfl))
 (pss_cons (ps_set (i := 9) sc__law_far.nd rfl (Or.inl rfl) (pe_ix (k_ixT K) (pe_ix (k_ixT K) (pv 0) (pe_ix (k_ixT K) (pv 7) pe_int (fun _ _ => rfl)) (fun _ _ => rfl)) (pv 8) (fun _ _ => rfl)))
 (pss_cons (ps_set (i := 10) sc__law_far.nd rfl (Or.inl rfl) (pe_ix (k_ixT K) (pe_ix (k_ixT K) (pv 0) (pe_ix (k_ixT K) (pv 7) pe_int (fun _ _ => rfl)) (fun _ _ => rfl)) (pv 8) (fun _ _ => rfl)))
 (pss_one (ps_if (PW.pt (pw_and (pt_cmpR op_notN (pv 9) pe_non (nomark _)) (pw_and1 (pt_cmpR op_notN (pv 10) pe_non (nomark _))))) (pss_cons (ps_if (pt_cmpR op_ne (pe_ix (k_ixT K) (pv 9) pe_int (fun _ _ => rfl)) (pe_ix (k_ixT K) (pv 10) pe_int (fun _ _ => rfl)) (nomark _)) (pss_one (ps_ret (pe_op (k_catT K) (pe_dget (hu_of hr) (pv 3) (pv 7) (fun _ _ => rfl)) (pe_tup (pa_cons (pv 8) pa_nil))))) pss_nil)
 (pss_one (ps_if (pt_cmp (pc_dnotin (hu_of hr) (pe_tup (pa_cons (pe_ix (k_ixT K) (pv 9) pe_int (fun _ _ => rfl)) (pa_cons (pe_ix (k_ixT K) (pv 10) pe_int (fun _ _ => rfl)) pa_nil))) (pv 3))) (pss_cons (ps_dput (hu_of hr) (pv 3) (pe_tup (pa_cons (pe_ix (k_ixT K) (pv 9) pe_int (fun _ _ => rfl)) (pa_cons (pe_ix (k_ixT K) (pv 10) pe_int (fun _ _ => rfl)) pa_nil))) (pe_op (k_catT K) (pe_dget (hu_of hr) (pv 3) (pv 7) (fun _ _ => rfl)) (pe_tup (pa_cons (pv 8) pa_nil))) rfl)
 (pss_one (ps_expr (pe_bm PySem.F.plainAttrs_list PySem.F.slot_list_append PySem.F.type_list_append mt_append (pv 6) (pa_cons (pe_tup (pa_cons (pe_ix (k_ixT K) (pv 9) pe_int (fun _ _ => rfl)) (pa_cons (pe_ix (k_ixT K) (pv 10) pe_int (fun _ _ => rfl)) pa_nil))) pa_nil))))) pss_nil))) pss_nil)))))))
 (pss_one (ps_set (i := 4) sc__law_far.nd rfl (Or.inl rfl) (pv 6))))))
 (pss_one (ps_ret (pe_tup pa_nil))))), ?_⟩
    have hm2 : 2 ≤ m := by rcases g.lets with e | e <;> omega
    have hm3 : m ≤ 3 := by rcases g.lets with e | e <;> omega
    refine fun d hd => ⟨_, rfl, _, rfl, by show 2 ≤ sizeLine; decide, fun k1 hk1 => ⟨by show 0 ≤ sizeLine; decide, fun r1 hr1 => ?_⟩⟩
    have dk : d ≠ k1 := fun z => by rw [← z, upd_same] at hk1; cases hk1
    have kr : k1 ≠ r1 := fun z => by rw [← z, upd_same] at hr1; cases hr1
    have dr : d ≠ r1 := fun z => by rw [← z, upd_ne dk, upd_same] at hr1; cases hr1
    have s1 : Same H (upd (upd (upd H d (.dT [])) k1 (.tup [.int (a : Nat), .int (b : Nat)])) r1 (.tup [])) := (same_new hd _).trans ((same_new hk1 _).trans (same_new hr1 _))
    have e1 : (upd (upd (upd H d (.dT [])) k1 (.tup [.int (a : Nat), .int (b : Nat)])) r1 (.tup [])) d = some (.dT []) := by rw [upd_ne dr, upd_ne dk, upd_same]
    have e2 : (upd (upd (upd H d (.dT [])) k1 (.tup [.int (a : Nat), .int (b : Nat)])) r1 (.tup [])) k1 = some (.tup [.int (a : Nat), .int (b : Nat)]) := by rw [upd_ne kr, upd_same]
    have e3 : (upd (upd (upd H d (.dT [])) k1 (.tup [.int (a : Nat), .int (b : Nat)])) r1 (.tup [])) r1 = some (.tup []) := upd_same
    refine ⟨e1, k1, keyP (a, b), rfl, e2, ?_⟩
    revert s1 e1 e2 e3
    generalize upd (upd (upd H d (.dT [])) k1 (.tup [.int (a : Nat), .int (b : Nat)])) r1 (.tup []) = H1
    intro s1 e1 e2 e3
    have s2 : Same H (upd H1 d (.dT [(keyP (a, b), .ref r1)])) := fun x o h => by
      rw [upd_ne (ne_of_none h hd)]
      exact s1 x o h
    have e4 : (upd H1 d (.dT [(keyP (a, b), .ref r1)])) d = some (.dT [(keyP (a, b), .ref r1)]) := upd_same
    have e5 : (upd H1 d (.dT [(keyP (a, b), .ref r1)])) r1 = some (.tup []) := by rw [upd_ne dr.symm]; exact e3
    revert s2 e4 e5
    generalize upd H1 d (.dT [(keyP (a, b), .ref r1)]) = H2
    intro s2 e4 e5
    refine ⟨_, rfl, _, rfl, by show 2 ≤ sizeLine; decide, fun k2 hk2 => ⟨by show 1 ≤ sizeLine; decide, fun wl hwl => ?_⟩⟩
    have s3 := (same_new hk2 (HO.tup [V.int (a : Nat), V.int (b : Nat)])).trans (same_new hwl (HO.lst [V.ref k2]))
    have L0 : LInv K H (upd (upd H2 k2 (.tup [.int (a : Nat), .int (b : Nat)])) wl (.lst [.ref k2])) d wl [((a, b), [])] 0 := by
      refine ⟨s2.trans s3, hd, s2.free ((same_new hk2 _).free hwl), _, _, s3 _ _ e4, upd_same, .cons ⟨rfl, r1, rfl, SqT.of (s3 _ _ e5)⟩ .nil, .cons ⟨k2, rfl, ?_⟩ .nil⟩
      rw [upd_ne (fun z => by rw [z, upd_same] at hwl; cases hwl), upd_same]
    revert L0
    generalize upd (upd H2 k2 (.tup [.int (a : Nat), .int (b : Nat)])) wl (.lst [.ref k2]) = H3
    intro L0
    clear s1 s2 s3 e1 e2 e3 e4 e5 dk kr dr hk1 hr1 hk2 hwl
    have h0 : ((a, b) : Nat × Nat).1 < t.length ∧ ((a, b) : Nat × Nat).2 < t.length := ⟨ha, hb⟩
    refine ⟨_, _, rfl, _, rfl, by decide, by decide, for_range (lo := 0) (n := (40 : Int).toNat) (fun τ σ H' => ∃ (Kn : KnP) (lo : Nat) (rl : Addr) (u5 u6 u7 u8 u9 u10 : Option V), lo ≤ Kn.length ∧ (τ ≤ lo ∨ Kn.length = lo) ∧ Bfs.Inv m (δP t) (a, b) Kn lo 0 ∧ LInv K H H' d rl Kn lo ∧
      σ = [some vt, some (.int (a : Nat)), some (.int (b : Nat)), some (.ref d), some (.ref rl), u5, u6, u7, u8, u9, u10]) ⟨_, 0, wl, _, _, _, _, _, _, Nat.zero_le _, .inl (Nat.zero_le _), Bfs.Inv.start, L0, rfl⟩ ?_ ?_⟩
    · rintro τ σ H4 hτ ⟨Kn0, lo, rl, u5, u6, u7, u8, u9, u10, hlo, hτlo, I, L, rfl⟩
      obtain ⟨kvs0, rws, ed0, er0, kv0, pr0⟩ := L.ex
      refine ⟨by show 0 ≤ sizeLine; decide, fun lt hlt => ?_⟩
      have s5 := same_new hlt (HO.lst [])
      have L1 : LInv K H (upd H4 lt (.lst [])) d lt Kn0 Kn0.length := ⟨L.same.trans s5, L.nd, L.same.free hlt, kvs0, [], s5 _ _ ed0, upd_same, kv0.mono fun _ _ => seqT s5, by rw [List.drop_length]; exact .nil⟩
      have er1 := s5 _ _ er0
      have pr1 := pr0.mono fun _ _ => s5 _ _
      have rlt : rl ≠ lt := ne_of_none er0 hlt
      have rld : rl ≠ d := ne_of er0 ed0 (by intro z; cases z)
      have lrw : rws.length = Kn0.length - lo := by rw [pr0.len, List.length_map, List.length_drop]
      refine ⟨_, rfl, rl, rfl, ⟨_, SqL.of er1⟩, for_list (K := K) (a := rl) (xs := rws) (fun j σ H' => ∃ (ext : KnP) (u7 u8 u9 u10 : Option V), (j = 0 → ext = []) ∧ Bfs.Inv m (δP t) (a, b) (Kn0 ++ ext) (lo + j) 0 ∧ LInv K H H' d lt (Kn0 ++ ext) Kn0.length ∧ H' rl = some (.lst rws) ∧ PrOk H' rws ((Kn0.drop lo).map (·.1)) ∧
        σ = [some vt, some (.int (a : Nat)), some (.int (b : Nat)), some (.ref d), some (.ref rl), some (.int (0 + (τ : Int))), some (.ref lt), u7, u8, u9, u10]) ⟨[], u7, u8, u9, u10, fun _ => rfl, by rw [List.append_nil]; exact I, by rw [List.append_nil]; exact L1, er1, pr1, rfl⟩ (fun j σ H' _ ⟨_, _, _, _, _, _, _, _, e, _⟩ => SqL.of e) ?_ ?_⟩
      · rintro j x σ H5 hx ⟨ext, u7, u8, u9, u10, _, I, L5, er, pr, rfl⟩
        obtain ⟨⟨l, r⟩, pa, hps, rfl, hpa⟩ := pr.get hx
        obtain ⟨q, hK0⟩ : ∃ q, Kn0[lo + j]? = some ((l, r), q) := by
          rw [List.getElem?_map, List.getElem?_drop] at hps
          cases z : Kn0[lo + j]? with
          | none => rw [z] at hps; cases hps
          | some y =>
            obtain ⟨y1, y2⟩ := y
            rw [z] at hps
            have e : y1 = (l, r) := Option.some.inj hps
            exact ⟨y2, by rw [e]⟩
        obtain ⟨ta, txs, b0, ys0, z0, rfl, g1, _, ge1, g2, gl, _⟩ := tab_at (n := 0) (c := 0) g (dp_same L5.same dt) g.lo (by omega)
        refine ⟨_, rfl, ta, txs, _, _, rfl, rfl, g1, ge1, b0, ys0, rfl, .inr g2, _, rfl, by omega, by omega, for_range (lo := 0) (n := ((ys0.length : Nat) : Int).toNat) (fun c σ H' => ∃ (ext : KnP) (u8 u9 u10 : Option V), Bfs.Inv m (δP t) (a, b) (Kn0 ++ ext) (lo + j) c ∧ LInv K H H' d lt (Kn0 ++ ext) Kn0.length ∧ H' rl = some (.lst rws) ∧ PrOk H' rws ((Kn0.drop lo).map (·.1)) ∧ H' pa = some (.tup [.int (l : Nat), .int (r : Nat)]) ∧
          σ = [some (.ref ta), some (.int (a : Nat)), some (.int (b : Nat)), some (.ref d), some (.ref rl), some (.int (0 + (τ : Int))), some (.ref lt), some (.ref pa), u8, u9, u10]) ⟨ext, u8, u9, u10, I, L5, er, pr, hpa, rfl⟩ ?_ ?_⟩
        · rintro c σ H6 hc ⟨ext, u8, u9, u10, I, L6, er, pr, hpa, rfl⟩
          have hcm : c < m := by omega
          rw [Int.zero_add]
          have hK : (Kn0 ++ ext)[lo + j]? = some ((l, r), q) := by
            rw [List.getElem?_append_left (List.getElem?_eq_some_iff.mp hK0).1]
            exact hK0
          have lr := run_good g h0 (I.rows _ (List.mem_of_getElem? hK)).1
          have k36 := known_le g h0 I
          have lti := (List.getElem?_eq_some_iff.mp hK).1
          have ql : q.length ≤ lo + j := row_len hm2 I _ _ hK
          have dt6 := dp_same L6.same dt
          obtain ⟨ta1, txs1, lb, lys, lz, et1, h1, _, e1, h2, _, e2, dz⟩ := tab_at (n := l) g dt6 lr.1 hcm
          cases et1
          obtain ⟨ta2, txs2, rb, rys, rz, et2, h1', _, e1', h2', _, e2', dz'⟩ := tab_at (n := r) g dt6 lr.2 hcm
          cases et2
          refine ⟨_, rfl, _, rfl, pa, _, _, _, rfl, rfl, SqT.of hpa, rfl, ta, txs1, _, _, rfl, rfl, h1, e1, _, rfl, lb, lys, _, lz, rfl, rfl, h2, e2, ?_⟩
          refine ⟨_, rfl, _, rfl, pa, _, _, _, rfl, rfl, SqT.of hpa, rfl, ta, txs2, _, _, rfl, rfl, h1', e1', _, rfl, rb, rys, _, rz, rfl, rfl, h2', e2', ?_⟩
          refine ⟨_, rfl, rfl, _, rfl, ?_⟩
          cases sl : stepAt t l c with
          | none =>
            rw [sl] at dz
            rw [dp_non dz]
            exact ⟨ext, _, _, _, I.none_ hK (by simp [δP, sl]), L6, er, pr, hpa, rfl⟩
          | some y =>
            obtain ⟨n1, w1⟩ := y
            rw [sl] at dz
            obtain ⟨ya, yxs, rfl, y1, y2, y3, _⟩ := step_at dz
            refine ⟨_, rfl, rfl, _, rfl, ?_⟩
            cases sr : stepAt t r c with
            | none =>
              rw [sr] at dz'
              rw [dp_non dz']
              exact ⟨ext, _, _, _, I.none_ hK (by simp [δP, sl, sr]), L6, er, pr, hpa, rfl⟩
            | some y' =>
              obtain ⟨n2, w2⟩ := y'
              rw [sr] at dz'
              obtain ⟨za, zxs, rfl, z1, z2, z3, _⟩ := step_at dz'
              have gl := stepAt_good g sl
              have gr := stepAt_good g sr
              refine ⟨_, rfl, ya, yxs, _, _, rfl, rfl, y1, y3, _, rfl, za, zxs, _, _, rfl, rfl, z1, z3, rfl, _, rfl, ?_⟩
              have qs : ∀ {H' : Hp} {ra : Addr}, SqT K H' ra (intsV q.reverse) → (intsV q.reverse).length + [V.int (c : Nat)].length ≤ sizeLine := fun _ => by
                rw [intsV_len, List.length_reverse]
                exact small1k (by show q.length + 1 ≤ 1000; omega)
              by_cases ew12 : w1 = w2
              · rw [decide_eq_true (by rw [ew12])]
                refine ⟨_, rfl, ya, yxs, _, _, rfl, rfl, y1, y2, _, rfl, za, zxs, _, _, rfl, rfl, z1, z2, by show 2 ≤ sizeLine; decide, fun rc hrc => ?_⟩
                have s8 := same_new hrc (HO.tup [V.int (n1 : Nat), V.int (n2 : Nat)])
                have L8 := L6.more s8
                have hδ : δP t (l, r) c = some (some (n1, n2)) := by simp [δP, sl, sr, ew12]
                obtain ⟨kvs, ws, ed, ew, kv, prl⟩ := L8.ex
                have erc : (upd H6 rc (.tup [.int (n1 : Nat), .int (n2 : Nat)])) rc = some (.tup ((keyP (n1, n2)).map kV)) := upd_same
                refine ⟨_, rfl, d, _, rfl, DGet.t ed erc, _, rfl, ?_⟩
                by_cases hin : (n1, n2) ∈ (Kn0 ++ ext).map (·.1)
                · obtain ⟨y, hy, e⟩ := List.mem_map.mp hin
                  obtain ⟨y1', q'⟩ := y
                  have e' : y1' = (n1, n2) := e
                  subst e'
                  obtain ⟨ra', look', _⟩ := kv.look I.nodup hy
                  rw [look']
                  exact ⟨ext, _, _, _, I.seen hm2 hK hcm hδ hy, L8, s8 _ _ er, pr.mono fun _ _ => s8 _ _, s8 _ _ hpa, rfl⟩
                · rw [kv.miss hin]
                  obtain ⟨ra, dg, sra⟩ := kv.get I.nodup (List.mem_of_getElem? hK) ed (s8 _ _ hpa)
                  refine ⟨_, rfl, _, rfl, d, .ref ra, rfl, dg, _, rfl, by show 1 ≤ sizeLine; decide, fun T hT => catA_ok (seqT (same_new hT _) sra) (SqT.of upd_same) (qs sra) (fun na H7 s7 hna => ?_)⟩
                  have s67 := s8.trans ((same_new hT (HO.tup [V.int (c : Nat)])).trans s7)
                  have hna' : SqT K H7 na (intsV (c :: q).reverse) := by
                    rw [List.reverse_cons, intsV_app]
                    exact hna
                  refine ⟨_, rfl, _, rfl, ya, yxs, _, _, rfl, rfl, seqT s67 y1, y2, _, rfl, za, zxs, _, _, rfl, rfl, seqT s67 z1, z2, by show 2 ≤ sizeLine; decide, fun rc2 hrc2 => ?_⟩
                  have s9 := s67.trans (same_new hrc2 (HO.tup [V.int (n1 : Nat), V.int (n2 : Nat)]))
                  have L9 := L6.more s9
                  obtain ⟨kvs9, ws9, ed9, ew9, kv9, prl9⟩ := L9.ex
                  refine ⟨d, _, rfl, DPut.t (k := keyP (n1, n2)) ed9 upd_same (small1000 (by rw [kv9.len]; omega)), ?_⟩
                  have LH := L9.put (q := c :: q) ed9 hin (by rw [List.length_append]; omega) (seqT (same_new hrc2 _) hna')
                  have er9 := s9 _ _ er
                  have pr9 := pr.mono fun _ _ => s9 _ _
                  have hpa9 := s9 _ _ hpa
                  have y1' := seqT_updD (o := .dT (putK kvs9 (keyP (n1, n2)) (.ref na))) ed9 (seqT s9 y1)
                  have z1' := seqT_updD (o := .dT (putK kvs9 (keyP (n1, n2)) (.ref na))) ed9 (seqT s9 z1)
                  have erA : (upd (upd H7 rc2 (.tup [.int (n1 : Nat), .int (n2 : Nat)])) d (.dT (putK kvs9 (keyP (n1, n2)) (.ref na)))) rl = some (.lst rws) := by rw [upd_ne rld]; exact er9
                  have prA := pr9.mono (tupD (o := .dT (putK kvs9 (keyP (n1, n2)) (.ref na))) ed9)
                  have hpaA := tupD (o := .dT (putK kvs9 (keyP (n1, n2)) (.ref na))) ed9 _ _ hpa9
                  revert LH y1' z1' erA prA hpaA
                  generalize (upd (upd H7 rc2 (.tup [.int (n1 : Nat), .int (n2 : Nat)])) d (.dT (putK kvs9 (keyP (n1, n2)) (.ref na)))) = HA
                  intro LH y1' z1' erA prA hpaA
                  obtain ⟨_, wsA, _, ewA, _, prlA⟩ := LH.ex
                  refine ⟨_, rfl, .inl ⟨rfl, _, SqL.of ewA⟩, _, rfl, ya, yxs, _, _, rfl, rfl, y1', y2, _, rfl, za, zxs, _, _, rfl, rfl, z1', z2, by show 2 ≤ sizeLine; decide, fun rc3 hrc3 => ?_⟩
                  have sB := same_new hrc3 (HO.tup [V.int (n1 : Nat), V.int (n2 : Nat)])
                  have ewB := sB _ _ ewA
                  refine ⟨lt, _, _, rfl, rfl, ewB, small1000 (by rw [prlA.len, List.length_map, List.length_drop]; omega), ?_⟩
                  have LN := (LH.more sB).app ewB upd_same
                  rw [List.append_assoc] at LN
                  refine ⟨ext ++ [((n1, n2), c :: q)], _, _, _, ?_, LN, ?_, (prA.mono fun _ _ => sB _ _).mono (tupU ewB), tupU ewB _ _ (sB _ _ hpaA), rfl⟩
                  · rw [← List.append_assoc]
                    exact I.new_ hm2 hK hcm hδ hin
                  · rw [upd_ne rlt]
                    exact sB _ _ erA
              · rw [decide_eq_false (fun z => ew12 (by have := V.int.inj z; omega))]
                have hδ : δP t (l, r) c = some none := by simp [δP, sl, sr, ew12]
                obtain ⟨kvs, ws, ed, ew, kv, prl⟩ := L6.ex
                obtain ⟨ra, dg, sra⟩ := kv.get I.nodup (List.mem_of_getElem? hK) ed hpa
                refine ⟨_, rfl, _, rfl, d, .ref ra, rfl, dg, _, rfl, by show 1 ≤ sizeLine; decide, fun T hT => catA_ok (seqT (same_new hT _) sra) (SqT.of upd_same) (qs sra) (fun na H7 s7 hna => ?_)⟩
                have hna' : SqT K H7 na (intsV (c :: q).reverse) := by
                  rw [List.reverse_cons, intsV_app]
                  exact hna
                exact k _ _ (L6.same.trans ((same_new hT _).trans s7)) (.inl ⟨c :: q, I.best hm2 hK hcm hδ, by show q.length + 1 ≤ 40; omega, dp_letters hna'⟩)
        · rintro σ H6 ⟨ext, u8, u9, u10, I, L6, er, pr, hpa, rfl⟩
          have em : ((ys0.length : Nat) : Int).toNat = m := by omega
          rw [em] at I
          exact ⟨ext, _, _, _, _, fun z => absurd z (Nat.succ_ne_zero j), I.next, L6, er, pr, rfl⟩
      · rintro σ H5 ⟨ext, u7, u8, u9, u10, hext, I, L5, er, pr, rfl⟩
        have ej : lo + rws.length = Kn0.length := by omega
        rw [ej] at I
        refine ⟨_, rfl, Kn0 ++ ext, Kn0.length, lt, _, _, _, _, _, _, by rw [List.length_append]; omega, ?_, I, L5, rfl⟩
        by_cases e : lo < Kn0.length
        · left; omega
        · right
          rw [hext (by omega), List.append_nil]
    · rintro σ H4 ⟨Kn, lo, rl, u5, u6, u7, u8, u9, u10, hlo, hτlo, I, L, rfl⟩
      have k36 := known_le g h0 I
      have nb : Bfs.NoneB m (δP t) (a, b) := I.nothing hm2 (by
        rcases hτlo with z | z
        · have : (40 : Int).toNat = 40 := rfl
          omega
        · omega)
      refine ⟨by show 0 ≤ sizeLine; decide, fun T hT => k _ _ (L.same.trans (same_new hT _)) (.inr ⟨nb, ?_⟩)⟩
      exact .tup (SqT.of upd_same) .nil
/-! ### _law_unlike, _law_rows -/
def spUnlike (K : PySem.W.Frag) : Sp := fun vs H Q _ => ∃ (vt vr : V) (t : Tab) (m a b : Nat) (r : List Nat), vs = [vt, .int (a : Nat), .int (b : Nat), vr] ∧ Good t m ∧ Dp K H vt (tabD t) ∧ a < t.length ∧ b < t.length ∧ Dp K H vr (lettersD r) ∧ (∀ c ∈ r, c < m) ∧ r.length ≤ 1000 ∧
  ∀ H', Same H H' → Q (.bl (unlikeF t a b r)) H'
theorem ok_law_unlike {f : Addr} {fd : FuncData} (F : Fun K "_law_unlike" "_law_unlike" s__law_unlike f fd) (G__law_walk : DefK P w K mg base CX0 1 "_law_walk" P__law_walk (spLWalk K)) : FnOk P w K mg base CX0 2 f fd P__law_unlike (spUnlike K) := by
  refine F.ok sc__law_unlike (fun vs H Q E h => ?_) (fun cdv A outer s H vs Q E hr h => ?_)
  · obtain ⟨vt, vr, t, m, a, b, r, rfl, _⟩ := h
    rfl
  · obtain ⟨vt, vr, t, m, a, b, r, rfl, g, dt, ha, hb, dr, hc, hl, k⟩ := h
    refine ⟨_, (pss_cons (ps_par (i := 4) (j := 5) rfl sc__law_unlike.nd rfl rfl (by decide) rfl rfl (pa_cons (pe_def G__law_walk (hr.mono (by omega)) (by rfl) (pa_cons (pv 0) (pa_cons (pv 1) (pa_cons (pv 3) pa_nil)))) (pa_cons (pe_def G__law_walk (hr.mono (by omega)) (by rfl) (pa_cons (pv 0) (pa_cons (pv 2) (pa_cons (pv 3) pa_nil)))) pa_nil)) rfl)
 (pss_one (ps_ret (pe_and (pe_cmpR op_notN (pv 4) pe_non (nomark _)) (pe_and (pe_cmpR op_notN (pv 5) pe_non (nomark _)) (pe_one (pe_cmpR (k_neD K hr.units) (pe_ix (k_ixT K) (pv 4) pe_int (fun _ _ => rfl)) (pe_ix (k_ixT K) (pv 5) pe_int (fun _ _ => rfl)) (nomark _)))))))), ?_⟩
    refine ⟨_, rfl, _, rfl, _, rfl, vt, vr, t, m, a, r, rfl, g, dt, ha, dr, hc, by omega, fun u H1 s1 du => ?_⟩
    refine ⟨_, rfl, _, rfl, _, rfl, vt, vr, t, m, b, r, rfl, g, dp_same s1 dt, hb, dp_same s1 dr, hc, by omega, fun v H2 s2 dv => ⟨_, _, rfl, ?_⟩⟩
    have s12 := s1.trans s2
    have du' := dp_same s2 du
    unfold unlikeF at k
    refine ⟨_, rfl, rfl, _, rfl, ?_⟩
    cases e1 : walkF t a r with
    | none =>
      rw [e1] at du' k
      rw [dp_non du']
      exact k H2 s12
    | some y1 =>
      obtain ⟨n1, w1⟩ := y1
      rw [e1] at du' k
      obtain ⟨ua, uxs, rfl, su, au⟩ := dp_tup (show Dp K H2 u (.tuple [.int (n1 : Nat), lettersD w1]) from du')
      refine ⟨_, rfl, rfl, _, rfl, ?_⟩
      cases e2 : walkF t b r with
      | none =>
        rw [e2] at dv k
        rw [dp_non dv]
        exact k H2 s12
      | some y2 =>
        obtain ⟨n2, w2⟩ := y2
        rw [e2] at dv k
        obtain ⟨va, vxs, rfl, sv, av⟩ := dp_tup (show Dp K H2 v (.tuple [.int (n2 : Nat), lettersD w2]) from dv)
        obtain ⟨x1, hx1, dx1⟩ := dps_get (i := 1) au rfl
        obtain ⟨x2, hx2, dx2⟩ := dps_get (i := 1) av rfl
        refine ⟨_, rfl, ua, uxs, _, x1, rfl, rfl, su, atI_nat hx1, _, rfl, va, vxs, _, x2, rfl, rfl, sv, atI_nat hx2, lettersD w1, lettersD w2, dx1, dx2, shaped_letters w1, shaped_letters w2, ?_⟩
        have e : (!PyData.eqv (lettersD w1) (lettersD w2)) = decide (w1 ≠ w2) := by
          rw [eqv_letters, Bool.eq_iff_iff]
          simp
        rw [e]
        exact k H2 s12
def spRows (K : PySem.W.Frag) : Sp := fun vs H Q _ => ∃ (m n : Nat), vs = [.int (m : Nat), .int (n : Nat)] ∧ 2 ≤ m ∧ m ≤ 3 ∧ n ≤ 4 ∧ ∀ (L : Addr) (ws : List V) (H' : Hp), Same H H' → H' L = some (.lst ws) → RowsOk K H' ws (allRows m n) → Q (.ref L) H'
theorem ok_law_rows {f : Addr} {fd : FuncData} (F : Fun K "_law_rows" "_law_rows" s__law_rows f fd) (B : Blt mg) : FnOk P w K mg base CX0 1 f fd P__law_rows (spRows K) := by
  refine F.ok sc__law_rows (fun vs H Q E h => ?_) (fun cdv A outer s H vs Q E hr h => ?_)
  · obtain ⟨m, n, rfl, _⟩ := h
    rfl
  · obtain ⟨m, n, rfl, hm2, hm3, hn, k⟩ := h
    refine ⟨_, (pss_cons (ps_set (i := 2) sc__law_rows.nd rfl (Or.inl rfl) (pe_lst (pa_cons (pe_tup pa_nil) pa_nil)))
 (pss_cons (ps_for PassesOwn.never rfl (pi_range1 (by rfl) B.n_range (pa_cons (pv 1) pa_nil)) (pg_name (i := 3) sc__law_rows.nd rfl (Or.inl rfl))
 (pss_cons (ps_set (i := 4) sc__law_rows.nd rfl (Or.inl rfl) (pe_lst pa_nil))
 (pss_cons (ps_for PassesOwn.never rfl (k_pil K (pv 2)) (pg_name (i := 5) sc__law_rows.nd rfl (Or.inr rfl))
 (pss_one (ps_set (i := 4) sc__law_rows.nd rfl (Or.inl rfl) (pe_op op_cat (pv 4) (pe_lc (own := ([("_law_letter", 6)] : List (Str × Nat))) (g := gName 6) (tt := tYes) rfl sc__law_rows.nd (pi_range1 (by rfl) B.n_range (pa_cons (pv 0) pa_nil)) (blkOk_by (own := ([("_law_letter", 6)] : List (Str × Nat))) (N := N__law_rows) (sc := defScope s__law_rows) (by decide +kernel)) (fun _ _ _ _ _ => by exact (pg_name (i := 6) sc__law_rows.nd rfl (Or.inl rfl))) (fun _ _ _ _ _ => by exact pts_nil) (fun _ _ _ _ _ => by exact (pe_op (k_catT K) (pv 5) (pe_tup (pa_cons (pv 6) pa_nil)))))))))
 (pss_one (ps_set (i := 2) sc__law_rows.nd rfl (Or.inl rfl) (pv 4))))))
 (pss_one (ps_ret (pv 2))))), ?_⟩
    refine ⟨by show 0 ≤ sizeLine; decide, fun r0 hr0 => ⟨by show 1 ≤ sizeLine; decide, fun f0 hf0 => ?_⟩⟩
    have s0 := (same_new hr0 (HO.tup [])).trans (same_new hf0 (HO.lst [V.ref r0]))
    refine ⟨_, rfl, _, rfl, by omega, by omega, for_range (lo := 0) (n := ((n : Nat) : Int).toNat) (fun i σ H' => ∃ (fl : Addr) (ws : List V) (u3 u4 u5 u6 : Option V), Same H H' ∧ H' fl = some (.lst ws) ∧ RowsOk K H' ws (allRows m i) ∧ σ = [some (.int (m : Nat)), some (.int (n : Nat)), some (.ref fl), u3, u4, u5, u6])
      ⟨f0, [.ref r0], none, none, none, none, s0, upd_same, .cons ⟨r0, rfl, SqT.of (by rw [upd_ne (fun z => by rw [z, upd_same] at hf0; cases hf0), upd_same]; rfl)⟩ .nil, rfl⟩ ?_ ?_⟩
    · rintro i σ H1 hi ⟨fl, ws, u3, u4, u5, u6, s1, ef, ro, rfl⟩
      have in4 : i < 4 := by omega
      have lw : ws.length ≤ 81 := by rw [ro.len]; exact allRows_len m i hm3 (by omega)
      refine ⟨by show 0 ≤ sizeLine; decide, fun ll hll => ?_⟩
      have s2 := same_new hll (HO.lst [])
      refine ⟨_, rfl, fl, rfl, ⟨_, SqL.of (s2 _ _ ef)⟩, for_list (K := K) (a := fl) (xs := ws) (fun j σ H' => ∃ (la : Addr) (us : List V) (u5 u6 : Option V), Same H1 H' ∧ H' la = some (.lst us) ∧ RowsOk K H' us (((allRows m i).take j).flatMap fun r => (List.range m).map fun c => r ++ [c]) ∧ us.length ≤ 3 * j ∧
        σ = [some (.int (m : Nat)), some (.int (n : Nat)), some (.ref fl), some (.int (0 + (i : Int))), some (.ref la), u5, u6]) ⟨ll, [], u5, u6, s2, upd_same, .nil, Nat.zero_le _, rfl⟩ (fun j σ H' _ ⟨_, _, _, _, z, _⟩ => SqL.of (z _ _ ef)) ?_ ?_⟩
      · rintro j x σ H2 hx ⟨la, us, u5, u6, s3, el, rl, ul, rfl⟩
        obtain ⟨r, ra, hri, rfl, sra⟩ := ro.get hx
        have rlen : r.length = i := (allRows_mem.mp (List.mem_of_getElem? hri)).1
        have lj : j < ws.length := (List.getElem?_eq_some_iff.mp hx).1
        refine ⟨_, rfl, _, rfl, _, rfl, by omega, by omega, fun D hD => lc_range (lo := 0) (n := ((m : Nat) : Int).toNat) (fun c H' => ∃ cs, Same H2 H' ∧ H' D = some (.lst cs) ∧ RowsOk K H' cs ((List.range c).map fun c => r ++ [c]) ∧ cs.length = c) ⟨[], same_new hD _, upd_same, .nil, rfl⟩ ?_ ?_⟩
        · rintro c H3 hc ⟨cs, s4, eD, rc, lc⟩
          refine ⟨rfl, ?_⟩
          refine ⟨_, rfl, _, rfl, by show 1 ≤ sizeLine; decide, fun T hT => catA_ok (seqT (s3.trans (s4.trans (same_new hT _))) sra) (SqT.of upd_same) (by rw [intsV_len]; exact small1k (by show r.length + 1 ≤ 1000; omega)) (fun na H5 s5 hna => ?_)⟩
          have s45 := (same_new hT (HO.tup [V.int (0 + (c : Int))])).trans s5
          have eD5 := s45 _ _ eD
          refine ⟨_, eD5, small1000 (by omega), cs ++ [.ref na], fun b o e => ?_, upd_same, ?_, by rw [List.length_append, lc]; rfl⟩
          · rw [upd_ne (ne_of_none e hD)]
            exact s45 _ _ (s4 _ _ e)
          · rw [range_more, List.map_append]
            refine RowsOk.app ((rc.mono fun _ _ => seqT s45).mono fun _ _ => seqT_upd eD5) (.cons ⟨na, rfl, seqT_upd eD5 ?_⟩ .nil)
            rw [intsV_app]
            have x1 : 0 + (c : Int) = ((c : Nat) : Int) := by omega
            rw [x1] at hna
            exact hna
        · rintro H3 ⟨cs, s4, eD, rc, lc⟩
          have em : ((m : Nat) : Int).toNat = m := by omega
          rw [em] at rc lc
          have el3 := s4 _ _ el
          refine ⟨la, D, us, cs, rfl, rfl, el3, eD, small1k (by omega), fun N hN => ?_⟩
          have s5 := same_new hN (HO.lst (us ++ cs))
          refine ⟨N, us ++ cs, _, _, s3.trans (s4.trans s5), upd_same, ?_, by rw [List.length_append]; omega, rfl⟩
          rw [flatMap_take _ hri]
          exact RowsOk.app (rl.mono fun _ _ => seqT (s4.trans s5)) (rc.mono fun _ _ => seqT s5)
      · rintro σ H2 ⟨la, us, u5, u6, s3, el, rl, ul, rfl⟩
        rw [ro.len, List.take_length] at rl
        exact ⟨_, rfl, la, us, _, _, _, _, s1.trans s3, el, rl, rfl⟩
    · rintro σ H1 ⟨fl, ws, u3, u4, u5, u6, s1, ef, ro, rfl⟩
      have en : ((n : Nat) : Int).toNat = n := by omega
      rw [en] at ro
      exact ⟨_, rfl, k fl ws H1 s1 ef ro⟩
/-! ### the law -/
def spLaw (K : PySem.W.Frag) : Sp := fun vs H Q _ => ∃ (a : Addr) (ns : List Int), vs = [.ref a] ∧ SqL K H a (ns.map V.int) ∧ ns.length ≤ 63 ∧ ∀ H', Q (.bl true) H'
section
variable {C : Addr}
theorem ok_law {f : Addr} {fd : FuncData} (F : Fun K "law" "law" s_law f fd) (B : Blt mg) (G__law_mix : DefK P w K mg base CX0 1 "_law_mix" P__law_mix (spMix K))
    (G__law_table : DefK P w K mg base CX0 3 "_law_table" P__law_table (spTable K)) (G__law_far : DefK P w K mg base CX0 1 "_law_far" P__law_far (spFar K)) (G__law_unlike : DefK P w K mg base CX0 2 "_law_unlike" P__law_unlike (spUnlike K))
    (G__law_rows : DefK P w K mg base CX0 1 "_law_rows" P__law_rows (spRows K)) (G__law_alike : DefK P w K mg base CX0 3 "_law_alike" P__law_alike (spAlike K 3)) (G_told_apart : DefK P w K mg base CX0 4 "told_apart" P_told_apart (spTold K C))
    (G_alike : DefK P w K mg base CX0 4 "alike" P_alike (spAlikeM K C)) (m_Machine : MkK P w K mg base CX0 5 C "Machine" P_Machine_init (spMInit K C)) : FnOk P w K mg base CX0 7 f fd P_law (spLaw K) := by
  refine F.ok sc_law (fun vs H Q E h => ?_) (fun cdv A outer s H vs Q E hr h => ?_)
  · obtain ⟨a, ns, rfl, _⟩ := h
    rfl
  · obtain ⟨a, ns, rfl, hS, hlen, k⟩ := h
    refine ⟨_, (pss_cons (ps_set (i := 1) sc_law.nd rfl (Or.inl rfl) (pe_def G__law_mix (hr.mono (by omega)) (by rfl) (pa_cons (pv 0) (pa_cons pe_int pa_nil))))
 (pss_cons (ps_for PassesOwn.never rfl (pi_range1 (by rfl) B.n_range (pa_cons pe_int pa_nil)) (pg_name (i := 2) sc_law.nd rfl (Or.inl rfl))
 (pss_cons (ps_set (i := 3) sc_law.nd rfl (Or.inr rfl) (pe_def G__law_table (hr.mono (by omega)) (by rfl) (pa_cons (pv 1) pa_nil)))
 (pss_cons (ps_par (i := 4) (j := 5) rfl sc_law.nd rfl rfl (by decide) rfl rfl (pa_cons (pe_mkM m_Machine (hr.mono (by omega)) (by rfl) (pa_cons (pv 3) pa_nil)) (pa_cons (pe_lst pa_nil) pa_nil)) rfl)
 (pss_cons (ps_for PassesOwn.never rfl (pi_range1 (by rfl) B.n_range (pa_cons (pe_callB (k_len K) (by rfl) B.n_len boot_len (pa_cons (pv 3) pa_nil)) pa_nil)) (pg_name (i := 6) sc_law.nd rfl (Or.inr rfl))
 (pss_one (ps_for PassesOwn.never rfl (pi_range2 (by rfl) B.n_range (pa_cons (pe_op op_add (pv 6) pe_int) (pa_cons (pe_callB (k_len K) (by rfl) B.n_len boot_len (pa_cons (pv 3) pa_nil)) pa_nil))) (pg_name (i := 7) sc_law.nd rfl (Or.inr rfl))
 (pss_cons (ps_set (i := 8) sc_law.nd rfl (Or.inl rfl) (pe_def G__law_far (hr.mono (by omega)) (by rfl) (pa_cons (pv 3) (pa_cons (pv 6) (pa_cons (pv 7) pa_nil)))))
 (pss_cons (ps_if (pt_cmpR (k_eqD K hr.units) (pv 8) (pe_tup pa_nil) (nomark _)) (pss_one (ps_expr (pe_bm PySem.F.plainAttrs_list PySem.F.slot_list_append PySem.F.type_list_append mt_append (pv 5) (pa_cons (pe_tup (pa_cons (pv 6) (pa_cons (pv 7) pa_nil))) pa_nil)))) pss_nil)
 (pss_cons (ps_set (i := 9) sc_law.nd rfl (Or.inl rfl) (pe_def G_told_apart (hr.mono (by omega)) (by rfl) (pa_cons (pv 4) (pa_cons (pv 6) (pa_cons (pv 7) pa_nil)))))
 (pss_cons (ps_if (pt_cmpR op_ne (pe_cmpR op_isN (pv 9) pe_non (nomark _)) (pe_cmpR (k_eqD K hr.units) (pv 8) (pe_tup pa_nil) (nomark _)) (nomark _)) (pss_one (ps_ret pe_bl)) pss_nil)
 (pss_one (ps_if (pt_cmpR op_notN (pv 9) pe_non (nomark _)) (pss_cons (ps_if (PW.pt (pw_or (pt_not (pt_val (pe_def G__law_alike (hr.mono (by omega)) (by rfl) (pa_cons (pv 9) (pa_cons (pv 8) pa_nil))))) (pw_or1 (pt_not (pt_val (pe_def G__law_unlike (hr.mono (by omega)) (by rfl) (pa_cons (pv 3) (pa_cons (pv 6) (pa_cons (pv 7) (pa_cons (pv 9) pa_nil)))))))))) (pss_one (ps_ret pe_bl)) pss_nil)
 (pss_one (ps_if (pt_cmpR op_lt (pe_callB (k_len K) (by rfl) B.n_len boot_len (pa_cons (pv 8) pa_nil)) pe_int (nomark _)) (pss_cons (ps_set (i := 10) sc_law.nd rfl (Or.inl rfl) (pe_def G__law_rows (hr.mono (by omega)) (by rfl) (pa_cons (pe_callB (k_len K) (by rfl) B.n_len boot_len (pa_cons (pe_ix (k_ixT K) (pv 3) pe_int (fun _ _ => rfl)) pa_nil)) (pa_cons (pe_callB (k_len K) (by rfl) B.n_len boot_len (pa_cons (pv 8) pa_nil)) pa_nil))))
 (pss_cons (ps_setLc (i := 11) (own := ([("_law_row", 12)] : List (Str × Nat))) (g := gName 12) rfl sc_law.nd rfl rfl (sw_true rfl rfl rfl (by decide +kernel)) (k_pil K (pv 10)) (blkOk_by (own := ([("_law_row", 12)] : List (Str × Nat))) (N := N_law) (sc := defScope s_law) (by decide +kernel)) (fun _ _ _ _ _ => by exact (pg_name (i := 12) sc_law.nd rfl (Or.inl rfl))) (fun _ _ _ _ _ => by exact (pts_one (pt_val (pe_def G__law_unlike (hr.mono (by omega)) (by rfl) (pa_cons (pv 3) (pa_cons (pv 6) (pa_cons (pv 7) (pa_cons (pv 12) pa_nil)))))))) (fun _ _ _ _ _ => by exact (pv 12)))
 (pss_one (ps_if (pt_not (pt_val (pe_def G__law_alike (hr.mono (by omega)) (by rfl) (pa_cons (pv 9) (pa_cons (pe_ix (k_ixL K) (pv 11) pe_int (fun _ _ => rfl)) pa_nil))))) (pss_one (ps_ret pe_bl)) pss_nil)))) pss_nil))) pss_nil)))))))))
 (pss_one (ps_if (PW.pt (pw_or (pt_not (pt_val (pe_def G__law_alike (hr.mono (by omega)) (by rfl) (pa_cons (pe_def G_alike (hr.mono (by omega)) (by rfl) (pa_cons (pv 4) pa_nil)) (pa_cons (pv 5) pa_nil))))) (pw_or1 (pt_cmpR op_notN (pe_def G_told_apart (hr.mono (by omega)) (by rfl) (pa_cons (pv 4) (pa_cons pe_int (pa_cons pe_int pa_nil)))) pe_non (nomark _))))) (pss_one (ps_ret pe_bl)) pss_nil))))))
 (pss_one (ps_ret pe_bl)))), ?_⟩
    refine ⟨_, rfl, a, ns, 3, rfl, hS, hlen, by decide, by decide, fun h l H0 s0 _ _ S0 => ?_⟩
    refine ⟨_, rfl, by decide, by decide, for_range (lo := 0) (n := (4 : Int).toNat) (fun i σ H' => ∃ u2 u3 u4 u5 u6 u7 u8 u9 u10 u11, σ = [some (.ref a), some (.ref h), u2, u3, u4, u5, u6, u7, u8, u9, u10, u11, none] ∧ Src H' h l) ⟨none, none, none, none, none, none, none, none, none, none, rfl, S0⟩ ?_ ?_⟩
    · rintro τ σ H1 hτ ⟨u2, u3, u4, u5, u6, u7, u8, u9, u10, u11, rfl, S1⟩
      refine ⟨_, rfl, h, l, rfl, S1, fun vt t m H2 g dt S2 k2 => ?_⟩
      have hm2 : 2 ≤ m := by rcases g.lets with e | e <;> omega
      have hm3 : m ≤ 3 := by rcases g.lets with e | e <;> omega
      have hi6 := g.hi
      have lo1 := g.lo
      refine ⟨_, rfl, fun x dx nx nd ne => ?_⟩
      have s1 := mk_same C nx nd ne
      refine ⟨x, dx, _, t, m, rfl, upd_same, g, dp_same s1 dt, fun Hm mm kk => ⟨rfl, ?_⟩⟩
      have sm : Same H2 Hm := fun b o e => kk b o (ne_of_none e nx) (s1 b o e)
      have Sm := S2.same sm
      have dtm := dp_same sm dt
      obtain ⟨ta, txs, rfl, st, lt⟩ := tab_len dtm
      have et : ((txs.length : Nat) : Int).toNat = t.length := by omega
      refine ⟨by show 0 ≤ sizeLine; decide, fun pl hpl => ⟨_, _, rfl, ?_⟩⟩
      let row := fun (a : Nat) => (List.range (t.length - (a + 1))).map fun b => (a, a + 1 + b)
      refine ⟨_, rfl, ta, txs, rfl, .inr (seqT (same_new hpl _) st), _, rfl, by omega, by omega, for_range (lo := 0) (n := ((txs.length : Nat) : Int).toNat) (fun i σ H' => ∃ (ws : List V) (u6 u7 u8 u9 u10 u11 : Option V), Same Hm H' ∧ H' pl = some (.lst ws) ∧ PrOk H' ws (((List.range i).flatMap row).filter (selN t m)) ∧ ws.length ≤ 6 * i ∧
        σ = [some (.ref a), some (.ref h), some (.int (0 + (τ : Int))), some (.ref ta), some (.ref x), some (.ref pl), u6, u7, u8, u9, u10, u11, none]) ⟨[], u6, u7, u8, u9, u10, u11, same_new hpl _, upd_same, .nil, Nat.le_refl _, rfl⟩ ?_ ?_⟩
      · rintro i σ H3 hi ⟨ws, u6, u7, u8, u9, u10, u11, s3, ep, pr, lw, rfl⟩
        have hit : i < t.length := by omega
        refine ⟨_, rfl, _, _, rfl, rfl, _, rfl, ta, txs, rfl, .inr (seqT s3 st), _, _, rfl, ⟨by omega, by omega, by omega, by omega⟩, for_range (lo := 0 + (i : Int) + 1) (n := (((txs.length : Nat) : Int) - (0 + (i : Int) + 1)).toNat) (fun j σ H' => ∃ (ws' : List V) (u7 u8 u9 u10 u11 : Option V), Same Hm H' ∧ H' pl = some (.lst ws') ∧ PrOk H' ws' (((List.range i).flatMap row ++ (List.range j).map fun b => (i, i + 1 + b)).filter (selN t m)) ∧ ws'.length ≤ 6 * i + j ∧
          σ = [some (.ref a), some (.ref h), some (.int (0 + (τ : Int))), some (.ref ta), some (.ref x), some (.ref pl), some (.int (0 + (i : Int))), u7, u8, u9, u10, u11, none]) ⟨ws, u7, u8, u9, u10, u11, s3, ep, by rw [List.range_zero, List.map_nil, List.append_nil]; exact pr, by omega, rfl⟩ ?_ ?_⟩
        · rintro j σ H4 hj ⟨ws', u7, u8, u9, u10, u11, s4, ep, pr, lw', rfl⟩
          have hjt : i + 1 + j < t.length := by omega
          have x1 : 0 + (i : Int) = ((i : Nat) : Int) := by omega
          have x2 : ((i : Nat) : Int) + 1 + (j : Int) = ((i + 1 + j : Nat) : Int) := by omega
          rw [x1, x2]
          have more : (((List.range i).flatMap row ++ (List.range (j + 1)).map fun b => (i, i + 1 + b))).filter (selN t m) = (((List.range i).flatMap row ++ (List.range j).map fun b => (i, i + 1 + b))).filter (selN t m) ++ [(i, i + 1 + j)].filter (selN t m) := by
            rw [range_more, List.map_append, ← List.append_assoc, List.filter_append]
            rfl
          refine ⟨_, rfl, _, rfl, _, rfl, .ref ta, t, m, i, i + 1 + j, rfl, dp_same s4 dtm, g, hit, hjt, fun vm H5 s5 ap => ?_⟩
          have s45 := s4.trans s5
          have ep5 := s5 _ _ ep
          have pr5 := pr.mono fun _ _ => s5 _ _
          rcases ap with ⟨q, bq, q40, dq⟩ | ⟨nb, dn⟩
          · -- a row that tells them apart
            have qne : q.reverse ≠ [] := fun z => by
              have z' : q = [] := by simpa using z
              have gq := bq.goal
              rw [z'] at gq
              cases gq
            have no : selN t m (i, i + 1 + j) = false := selN_no fun z => Bfs.Best.notNone _ _ _ bq z
            obtain ⟨qa, rfl, sqa⟩ := letters_dp dq
            refine ⟨_, rfl, by show 0 ≤ sizeLine; decide, fun e1 he1 => ⟨_, _, dp_same (same_new he1 _) dq, .tup (SqT.of upd_same) .nil, shaped_letters _, shaped_letters [], _, rfl, ?_⟩⟩
            have en : PyData.eqv (lettersD q.reverse) (.tuple []) = false := (eqv_letters q.reverse []).trans (decide_eq_false qne)
            rw [en]
            have s6 := s5.trans (same_new he1 (HO.tup []))
            have s46 := s4.trans s6
            refine ⟨_, rfl, _, rfl, _, rfl, x, t, m, i, i + 1 + j, rfl, mm.same s46, g, hit, hjt, fun vf H7 s7 ap2 => ?_⟩
            have s67 := s6.trans s7
            have s47 := s46.trans s7
            rcases ap2 with ⟨q2, bq2, _, df⟩ | ⟨nb2, rfl⟩
            · have eq2 := Bfs.Best.unique _ _ _ hm2 bq2 bq
              subst eq2
              obtain ⟨fa, rfl, sfa⟩ := letters_dp df
              have dq7 := dp_same ((same_new he1 _).trans s7) dq
              refine ⟨_, rfl, rfl, _, rfl, by show 0 ≤ sizeLine; decide, fun e2 he2 => ⟨_, _, dp_same (same_new he2 _) dq7, .tup (SqT.of upd_same) .nil, shaped_letters _, shaped_letters [], ?_⟩⟩
              rw [en]
              refine ⟨rfl, _, rfl, ?_⟩
              have s8 := same_new he2 (HO.tup [])
              have s68 := s67.trans s8
              have s48 := s47.trans s8
              have df8 := dp_same s8 df
              have dq8 := dp_same s8 dq7
              refine ⟨_, rfl, rfl, _, rfl, ?_⟩
              refine ⟨_, rfl, _, rfl, .ref fa, .ref qa, _, rfl, df8, dq8, okD_letters 1 (by rw [List.length_reverse]; omega), fun H9 s9 => ⟨_, rfl, ?_⟩⟩
              have s49 := s48.trans s9
              refine ⟨_, rfl, _, rfl, _, rfl, _, rfl, .ref ta, .ref fa, t, m, i, i + 1 + j, q2.reverse, rfl, g, dp_same s49 dtm, hit, hjt, dp_same s9 df8, fun c hc => bq.lets c (by simpa using hc), by rw [List.length_reverse]; omega, fun HA sA => ⟨_, rfl, ?_⟩⟩
              rw [unlike_of_goal bq.goal]
              have s4A := s49.trans sA
              have s6A := s68.trans (s9.trans sA)
              have sq9 : SqT K HA qa (intsV q2.reverse) := seqT ((same_new he1 _).trans (s7.trans (s8.trans (s9.trans sA)))) sqa
              have fin : ∀ {HB : Hp}, Same HA HB → ∃ ws' : List V, Same Hm HB ∧ HB pl = some (.lst ws') ∧ PrOk HB ws' (((List.range i).flatMap row ++ (List.range (j + 1)).map fun b => (i, i + 1 + b)).filter (selN t m)) ∧ ws'.length ≤ 6 * i + (j + 1) := fun {HB} sB => by
                refine ⟨ws', s4A.trans sB, sB _ _ (s6A _ _ ep), ?_, by omega⟩
                rw [more]
                have z : [(i, i + 1 + j)].filter (selN t m) = [] := by simp [no]
                rw [z, List.append_nil]
                exact pr.mono fun _ _ h => sB _ _ (s6A _ _ h)
              refine ⟨_, rfl, qa, _, rfl, .inr sq9, _, _, rfl, rfl, _, rfl, ?_⟩
              by_cases h5 : q2.length < 5
              · rw [decide_eq_true (by rw [intsV_len, List.length_reverse]; omega)]
                obtain ⟨ta', txs', b0, ys0, z0, et', g1, _, ge1, g2, gl, _⟩ := tab_at (n := 0) (c := 0) g (dp_same s4A dtm) lo1 (by omega)
                cases et'
                refine ⟨_, rfl, ta, txs', _, _, rfl, rfl, g1, ge1, b0, ys0, rfl, .inr g2, _, rfl, qa, _, rfl, .inr sq9, m, q2.length, by rw [gl, intsV_len, List.length_reverse]; rfl, hm2, hm3, by omega, fun L rws HB sB eL ro => ?_⟩
                have s4B := s4A.trans sB
                obtain ⟨rest, hfl⟩ := first_unlike hm2 bq
                refine ⟨_, rfl, L, rfl, ⟨_, SqL.of eL⟩, fun D hD => lc_list (K := K) (a := L) (xs := rws) (fun n H' => ∃ cs, Same HB H' ∧ H' D = some (.lst cs) ∧ RowsOk K H' cs (((allRows m q2.length).take n).filter (unlikeF t i (i + 1 + j))) ∧ cs.length ≤ n) ⟨[], same_new hD _, upd_same, .nil, Nat.le_refl _⟩ (fun n H' _ ⟨_, z, _⟩ => SqL.of (z _ _ eL)) ?_ ?_⟩
                · rintro n y HC hn ⟨cs, sC, eD, rc, lc⟩
                  obtain ⟨r, ra, hr1, rfl, sra⟩ := ro.get hn
                  have rm := allRows_mem.mp (List.mem_of_getElem? hr1)
                  have ln : n < 81 := by
                    have z := (List.getElem?_eq_some_iff.mp hn).1
                    have z2 := allRows_len m q2.length hm3 (by omega)
                    rw [← ro.len] at z2
                    omega
                  have s4C := s4B.trans sC
                  refine ⟨rfl, _, rfl, _, rfl, _, rfl, _, rfl, .ref ta, .ref ra, t, m, i, i + 1 + j, r, rfl, g, dp_same s4C dtm, hit, hjt, dp_letters (seqT sC sra), fun c hc => rm.2 c (by simpa using hc), by rw [rm.1]; omega, fun HD sD => ⟨_, rfl, ?_⟩⟩
                  have sCD := sC.trans sD
                  cases eu : unlikeF t i (i + 1 + j) r with
                  | false =>
                    refine ⟨cs, sCD, sD _ _ eD, ?_, by omega⟩
                    rw [take_more hr1, List.filter_append]
                    have z : [r].filter (unlikeF t i (i + 1 + j)) = [] := by simp [eu]
                    rw [z, List.append_nil]
                    exact rc.mono fun _ _ => seqT sD
                  | true =>
                    refine ⟨_, rfl, cs, sD _ _ eD, small1000 (by omega), cs ++ [.ref ra], fun b o e => ?_, upd_same, ?_, by rw [List.length_append]; show cs.length + 1 ≤ n + 1; omega⟩
                    · rw [upd_ne (ne_of_none e hD)]
                      exact sD _ _ (sC _ _ e)
                    · rw [take_more hr1, List.filter_append]
                      have z : [r].filter (unlikeF t i (i + 1 + j)) = [r] := by simp [eu]
                      rw [z]
                      exact RowsOk.app ((rc.mono fun _ _ => seqT sD).mono fun _ _ => seqT_upd (sD _ _ eD)) (.cons ⟨ra, rfl, seqT_upd (sD _ _ eD) (seqT sCD sra)⟩ .nil)
                · rintro HC ⟨cs, sC, eD, rc, lc⟩
                  rw [ro.len, List.take_length, hfl] at rc
                  cases rc with
                  | cons hd0 rc =>
                    obtain ⟨ra, rfl, sra⟩ := hd0
                    have df' := dp_same (s9.trans (sA.trans (sB.trans sC))) df8
                    refine ⟨_, rfl, _, rfl, D, _, _, .ref ra, rfl, rfl, SqL.of eD, (show atI _ ((0 : Nat) : Int) = _ from atI_nat rfl), .ref fa, .ref ra, _, rfl, df', dp_letters sra, okD_letters 1 (by rw [List.length_reverse]; omega), fun HD sD => ⟨_, rfl, ?_⟩⟩
                    obtain ⟨ws2, f1, f2, f3, f4⟩ := fin (sB.trans (sC.trans sD))
                    exact ⟨ws2, _, _, _, _, _, f1, f2, f3, f4, rfl⟩
              · rw [decide_eq_false (by rw [intsV_len, List.length_reverse]; omega)]
                obtain ⟨ws2, f1, f2, f3, f4⟩ := fin (Same.refl HA)
                exact ⟨ws2, _, _, _, _, _, f1, f2, f3, f4, rfl⟩
            · exact absurd nb2 (fun z => Bfs.Best.notNone _ _ _ bq z)
          · -- none
            have yes := selN_yes nb
            refine ⟨_, rfl, by show 0 ≤ sizeLine; decide, fun e1 he1 => ⟨_, _, dp_same (same_new he1 _) dn, .tup (SqT.of upd_same) .nil, shaped_letters [], shaped_letters [], _, rfl, ?_⟩⟩
            have en : PyData.eqv (lettersD []) (.tuple []) = true := rfl
            rw [en]
            have s6 := same_new he1 (HO.tup [])
            have ep6 := s6 _ _ ep5
            refine ⟨_, rfl, .inl ⟨rfl, _, SqL.of ep6⟩, _, rfl, _, rfl, by show 2 ≤ sizeLine; decide, fun T hT => ?_⟩
            have sT := same_new hT (HO.tup [V.int (i : Nat), V.int (i + 1 + j : Nat)])
            have epT := sT _ _ ep6
            have eT : (upd (upd H5 e1 (.tup [])) T (.tup [.int (i : Nat), .int (i + 1 + j : Nat)])) T = some (.tup [.int (i : Nat), .int (i + 1 + j : Nat)]) := upd_same
            refine ⟨pl, _, _, rfl, rfl, epT, small1000 (by omega), ?_⟩
            have prT := (pr5.mono fun _ _ h => sT _ _ (s6 _ _ h)).mono (tupU (o := .lst (ws' ++ [.ref T])) epT)
            have eT' := tupU (o := .lst (ws' ++ [.ref T])) epT _ _ eT
            have epN : (upd (upd (upd H5 e1 (.tup [])) T (.tup [.int (i : Nat), .int (i + 1 + j : Nat)])) pl (.lst (ws' ++ [.ref T]))) pl = some (.lst (ws' ++ [.ref T])) := upd_same
            have sN : Same Hm (upd (upd (upd H5 e1 (.tup [])) T (.tup [.int (i : Nat), .int (i + 1 + j : Nat)])) pl (.lst (ws' ++ [.ref T]))) := fun b o e => by
              rw [upd_ne (ne_of_none e hpl)]
              exact sT _ _ (s6 _ _ (s45 _ _ e))
            have dnN : Dp K (upd (upd (upd H5 e1 (.tup [])) T (.tup [.int (i : Nat), .int (i + 1 + j : Nat)])) pl (.lst (ws' ++ [.ref T]))) vm (lettersD []) := dp_upd epT (dp_same sT (dp_same s6 dn)) (noL_letters [])
            revert prT eT' epN sN dnN
            generalize upd (upd (upd H5 e1 (.tup [])) T (.tup [.int (i : Nat), .int (i + 1 + j : Nat)])) pl (.lst (ws' ++ [.ref T])) = HN
            intro prT eT' epN sN dnN
            refine ⟨_, rfl, _, rfl, _, rfl, x, t, m, i, i + 1 + j, rfl, mm.same sN, g, hit, hjt, fun vf H7 s7 ap2 => ?_⟩
            rcases ap2 with ⟨q2, bq2, _, df⟩ | ⟨nb2, rfl⟩
            · exact absurd nb (fun z => Bfs.Best.notNone _ _ _ bq2 z)
            · refine ⟨_, rfl, rfl, _, rfl, by show 0 ≤ sizeLine; decide, fun e2 he2 => ⟨_, _, dp_same (same_new he2 _) (dp_same s7 dnN), .tup (SqT.of upd_same) .nil, shaped_letters [], shaped_letters [], ?_⟩⟩
              rw [en]
              refine ⟨rfl, _, rfl, ?_⟩
              have s8 := s7.trans (same_new he2 (HO.tup []))
              refine ⟨_, rfl, rfl, _, rfl, ?_⟩
              refine ⟨ws' ++ [.ref T], _, _, _, _, _, sN.trans s8, s8 _ _ epN, ?_, by rw [List.length_append]; show ws'.length + 1 ≤ _; omega, rfl⟩
              rw [more]
              have z : [(i, i + 1 + j)].filter (selN t m) = [(i, i + 1 + j)] := by simp [yes]
              rw [z]
              exact PrOk.snoc (prT.mono fun _ _ => s8 _ _) (s8 _ _ eT')
        · rintro σ H4 ⟨ws', u7, u8, u9, u10, u11, s4, ep, pr, lw', rfl⟩
          have ej : (((txs.length : Nat) : Int) - (0 + (i : Int) + 1)).toNat = t.length - (i + 1) := by omega
          rw [ej] at pr lw'
          refine ⟨ws', _, _, _, _, _, _, s4, ep, ?_, by omega, rfl⟩
          rw [range_more, List.flatMap_append]
          have z : [i].flatMap row = row i := by simp
          rw [z]
          exact pr
      · rintro σ H3 ⟨ws, u6, u7, u8, u9, u10, u11, s3, ep, pr, lw, rfl⟩
        rw [et] at pr
        have pr' : PrOk H3 ws ((pairsBelow t.length).filter (selN t m)) := pr
        refine ⟨_, rfl, x, t, m, rfl, mm.same s3, g, fun L H4 us ps s4 eL pu hps => ?_⟩
        subst hps
        have lf : ((pairsBelow t.length).filter (selN t m)).length ≤ 1000000 := Nat.le_trans (List.length_filter_le _ _) (Nat.le_trans (pairsBelow_len _ hi6) (by decide))
        refine ⟨_, rfl, .ref L, .ref pl, _, rfl, prs_dp eL pu, prs_dp (s4 _ _ ep) (pr'.mono fun _ _ => s4 _ _), okD_pairs lf, fun H5 s5 => ⟨_, rfl, ?_⟩⟩
        have s35 := s3.trans (s4.trans s5)
        refine ⟨_, rfl, x, t, m, 0, 0, rfl, mm.same s35, g, by omega, by omega, fun v H6 s6 ap => ⟨rfl, _, rfl, ?_⟩⟩
        rcases ap with ⟨q, bq, _, _⟩ | ⟨_, rfl⟩
        · exfalso
          have z := unlike_of_goal bq.goal
          unfold unlikeF at z
          cases e : walkF t 0 q.reverse with
          | none => rw [e] at z; cases z
          | some y =>
            rw [e] at z
            exact (of_decide_eq_true z) rfl
        · exact ⟨_, _, _, _, _, _, _, _, _, _, rfl, Sm.same (s35.trans s6)⟩
    · rintro σ H1 ⟨u2, u3, u4, u5, u6, u7, u8, u9, u10, u11, rfl, S1⟩
      exact k H1
end
end
/-! ### what the top has left, the head -/
theorem all_mk {l : PySem.W.OpenLaw} {w : World} {K : PySem.W.Frag} {h : Heap} {mg : Str → Option Value} {fa : Addr} (X : K.In h) (G : h.Ns mainGlobals mg) (hfa : mg "law" = some (.ref fa))
    {t_MOST_STANDS : Tok}
    {t_WRITTEN_LETTERS : Tok}
    {a_LETTER_COUNTS : Addr} {dd_LETTER_COUNTS : Option Addr} {n_LETTER_COUNTS : Nat} {sl_LETTER_COUNTS : Array (Option Value)} {t0_LETTER_COUNTS t1_LETTER_COUNTS : Tok}
    {C : Addr}
    {pa_Machine_table : Addr} {rest_Machine_table : List Value}
    {f_Machine_table : Addr} {od_Machine_table an_Machine_table : Option Addr} {sl_Machine_table : Array (Option Value)} {oc_Machine_table kV_Machine_table dc_Machine_table pm_Machine_table cd_Machine_table ct_Machine_table : Value}
    {pa_Machine_letters : Addr} {rest_Machine_letters : List Value}
    {f_Machine_letters : Addr} {od_Machine_letters an_Machine_letters : Option Addr} {sl_Machine_letters : Array (Option Value)} {oc_Machine_letters kV_Machine_letters dc_Machine_letters pm_Machine_letters cd_Machine_letters ct_Machine_letters : Value}
    {f_Machine_len : Addr} {od_Machine_len an_Machine_len : Option Addr} {sl_Machine_len : Array (Option Value)} {oc_Machine_len kV_Machine_len dc_Machine_len pm_Machine_len cd_Machine_len ct_Machine_len : Value}
    {f_is_below : Addr} {od_is_below an_is_below : Option Addr} {sl_is_below : Array (Option Value)} {oc_is_below kV_is_below dc_is_below pm_is_below cd_is_below ct_is_below : Value}
    {f__is_step : Addr} {od__is_step an__is_step : Option Addr} {sl__is_step : Array (Option Value)} {oc__is_step kV__is_step dc__is_step pm__is_step cd__is_step ct__is_step : Value}
    {f__is_table_row : Addr} {od__is_table_row an__is_table_row : Option Addr} {sl__is_table_row : Array (Option Value)} {oc__is_table_row kV__is_table_row dc__is_table_row pm__is_table_row cd__is_table_row ct__is_table_row : Value}
    {f__check_table : Addr} {od__check_table an__check_table : Option Addr} {sl__check_table : Array (Option Value)} {oc__check_table kV__check_table dc__check_table pm__check_table cd__check_table ct__check_table : Value}
    {f_Machine_init : Addr} {od_Machine_init an_Machine_init : Option Addr} {sl_Machine_init : Array (Option Value)} {oc_Machine_init kV_Machine_init dc_Machine_init pm_Machine_init cd_Machine_init ct_Machine_init : Value}
    {f_check_stand : Addr} {od_check_stand an_check_stand : Option Addr} {sl_check_stand : Array (Option Value)} {oc_check_stand kV_check_stand dc_check_stand pm_check_stand cd_check_stand ct_check_stand : Value}
    {f__least_row_apart : Addr} {od__least_row_apart an__least_row_apart : Option Addr} {sl__least_row_apart : Array (Option Value)} {oc__least_row_apart kV__least_row_apart dc__least_row_apart pm__least_row_apart cd__least_row_apart ct__least_row_apart : Value}
    {f_told_apart : Addr} {od_told_apart an_told_apart : Option Addr} {sl_told_apart : Array (Option Value)} {oc_told_apart kV_told_apart dc_told_apart pm_told_apart cd_told_apart ct_told_apart : Value}
    {f_alike : Addr} {od_alike an_alike : Option Addr} {sl_alike : Array (Option Value)} {oc_alike kV_alike dc_alike pm_alike cd_alike ct_alike : Value}
    {f__law_mix : Addr} {od__law_mix an__law_mix : Option Addr} {sl__law_mix : Array (Option Value)} {oc__law_mix kV__law_mix dc__law_mix pm__law_mix cd__law_mix ct__law_mix : Value}
    {f__law_next : Addr} {od__law_next an__law_next : Option Addr} {sl__law_next : Array (Option Value)} {oc__law_next kV__law_next dc__law_next pm__law_next cd__law_next ct__law_next : Value}
    {f__law_pick : Addr} {od__law_pick an__law_pick : Option Addr} {sl__law_pick : Array (Option Value)} {oc__law_pick kV__law_pick dc__law_pick pm__law_pick cd__law_pick ct__law_pick : Value}
    {f__law_table : Addr} {od__law_table an__law_table : Option Addr} {sl__law_table : Array (Option Value)} {oc__law_table kV__law_table dc__law_table pm__law_table cd__law_table ct__law_table : Value}
    {f__law_walk : Addr} {od__law_walk an__law_walk : Option Addr} {sl__law_walk : Array (Option Value)} {oc__law_walk kV__law_walk dc__law_walk pm__law_walk cd__law_walk ct__law_walk : Value}
    {f__law_alike : Addr} {od__law_alike an__law_alike : Option Addr} {sl__law_alike : Array (Option Value)} {oc__law_alike kV__law_alike dc__law_alike pm__law_alike cd__law_alike ct__law_alike : Value}
    {f__law_far : Addr} {od__law_far an__law_far : Option Addr} {sl__law_far : Array (Option Value)} {oc__law_far kV__law_far dc__law_far pm__law_far cd__law_far ct__law_far : Value}
    {f__law_unlike : Addr} {od__law_unlike an__law_unlike : Option Addr} {sl__law_unlike : Array (Option Value)} {oc__law_unlike kV__law_unlike dc__law_unlike pm__law_unlike cd__law_unlike ct__law_unlike : Value}
    {f__law_rows : Addr} {od__law_rows an__law_rows : Option Addr} {sl__law_rows : Array (Option Value)} {oc__law_rows kV__law_rows dc__law_rows pm__law_rows cd__law_rows ct__law_rows : Value}
    {f_law : Addr} {od_law an_law : Option Addr} {sl_law : Array (Option Value)} {oc_law kV_law dc_law pm_law cd_law ct_law : Value}
    (z_set : PySem.W.nsIn K mainGlobals "set" = some none)
    (z_len : PySem.W.nsIn K mainGlobals "len" = some none)
    (z_isinstance : PySem.W.nsIn K mainGlobals "isinstance" = some none)
    (z_int : PySem.W.nsIn K mainGlobals "int" = some none)
    (z_bool : PySem.W.nsIn K mainGlobals "bool" = some none)
    (z_tuple : PySem.W.nsIn K mainGlobals "tuple" = some none)
    (z_list : PySem.W.nsIn K mainGlobals "list" = some none)
    (z_str : PySem.W.nsIn K mainGlobals "str" = some none)
    (z_range : PySem.W.nsIn K mainGlobals "range" = some none)
    (z_enumerate : PySem.W.nsIn K mainGlobals "enumerate" = some none)
    (z_max : PySem.W.nsIn K mainGlobals "max" = some none)
    (z_min : PySem.W.nsIn K mainGlobals "min" = some none)
    (z_all : PySem.W.nsIn K mainGlobals "all" = some none)
    (z_any : PySem.W.nsIn K mainGlobals "any" = some none)
    (z_sorted : PySem.W.nsIn K mainGlobals "sorted" = some none)
    (z_sum : PySem.W.nsIn K mainGlobals "sum" = some none)
    (z_zip : PySem.W.nsIn K mainGlobals "zip" = some none)
    (g_MOST_STANDS : PySem.W.nsIn K mainGlobals "MOST_STANDS" = some (some (.int 6 t_MOST_STANDS)))
    (g_WRITTEN_LETTERS : PySem.W.nsIn K mainGlobals "WRITTEN_LETTERS" = some (some (.int 4 t_WRITTEN_LETTERS)))
    (g_LETTER_COUNTS : PySem.W.nsIn K mainGlobals "LETTER_COUNTS" = some (some (.ref a_LETTER_COUNTS)))
    (o_LETTER_COUNTS : K.lookup a_LETTER_COUNTS = some ⟨.type "tuple", dd_LETTER_COUNTS, .seq #[.int 2 t0_LETTER_COUNTS, .int 3 t1_LETTER_COUNTS] n_LETTER_COUNTS, sl_LETTER_COUNTS⟩)
    (aC : PySem.W.nsIn K mainGlobals "Machine" = some (some (.ref C)))
    (pgC : PySem.W.plainGet K C Str.empty = true)
    (hdC : PySem.W.hasDictIn K C = true)
    (poC : PySem.W.plainOver K C = true)
    (saC : PySem.W.findIn K (.ref C) "__setattr__" = some (some (.builtin "object.__setattr__")))
    (mkC : PySem.W.makesIn K C = true)
    (kcC : PySem.W.keepIn K (.ref C) = true)
    (n__table : PySem.W.findIn K (.ref C) "_table" = some none)
    (pa1_Machine_table : PySem.W.findIn K (.ref C) "table" = some (some (.ref pa_Machine_table)))
    (pa2_Machine_table : PySem.W.specialIn K (.ref pa_Machine_table) "__get__" = some (some (.builtin "property.__get__")))
    (pa3_Machine_table : PySem.W.takesIn K (.ref pa_Machine_table) = some true)
    (pa4_Machine_table : PySem.W.recIn K pa_Machine_table "property" = some (.ref f_Machine_table :: rest_Machine_table))
    (l_Machine_table : K.lookup f_Machine_table = some ⟨oc_Machine_table, od_Machine_table, .func (PySem.W.fnOf "table" "Machine.table" (defArgs s_Machine_table) (defBody s_Machine_table) (defScope s_Machine_table) .none kV_Machine_table dc_Machine_table pm_Machine_table an_Machine_table cd_Machine_table ct_Machine_table), sl_Machine_table⟩)
    (c_Machine_table : PySem.W.codeIn K cd_Machine_table "Machine.table" = true)
    (k_Machine_table : PySem.W.keepIn K (.ref f_Machine_table) = true)
    (pa1_Machine_letters : PySem.W.findIn K (.ref C) "letters" = some (some (.ref pa_Machine_letters)))
    (pa2_Machine_letters : PySem.W.specialIn K (.ref pa_Machine_letters) "__get__" = some (some (.builtin "property.__get__")))
    (pa3_Machine_letters : PySem.W.takesIn K (.ref pa_Machine_letters) = some true)
    (pa4_Machine_letters : PySem.W.recIn K pa_Machine_letters "property" = some (.ref f_Machine_letters :: rest_Machine_letters))
    (l_Machine_letters : K.lookup f_Machine_letters = some ⟨oc_Machine_letters, od_Machine_letters, .func (PySem.W.fnOf "letters" "Machine.letters" (defArgs s_Machine_letters) (defBody s_Machine_letters) (defScope s_Machine_letters) .none kV_Machine_letters dc_Machine_letters pm_Machine_letters an_Machine_letters cd_Machine_letters ct_Machine_letters), sl_Machine_letters⟩)
    (c_Machine_letters : PySem.W.codeIn K cd_Machine_letters "Machine.letters" = true)
    (k_Machine_letters : PySem.W.keepIn K (.ref f_Machine_letters) = true)
    (m1_Machine_len : PySem.W.findIn K (.ref C) "__len__" = some (some (.ref f_Machine_len)))
    (l_Machine_len : K.lookup f_Machine_len = some ⟨oc_Machine_len, od_Machine_len, .func (PySem.W.fnOf "__len__" "Machine.__len__" (defArgs s_Machine_len) (defBody s_Machine_len) (defScope s_Machine_len) .none kV_Machine_len dc_Machine_len pm_Machine_len an_Machine_len cd_Machine_len ct_Machine_len), sl_Machine_len⟩)
    (c_Machine_len : PySem.W.codeIn K cd_Machine_len "Machine.__len__" = true)
    (k_Machine_len : PySem.W.keepIn K (.ref f_Machine_len) = true)
    (m2_Machine_len : PySem.W.isFn K (.ref f_Machine_len) = true)
    (a_is_below : PySem.W.nsIn K mainGlobals "is_below" = some (some (.ref f_is_below)))
    (l_is_below : K.lookup f_is_below = some ⟨oc_is_below, od_is_below, .func (PySem.W.fnOf "is_below" "is_below" (defArgs s_is_below) (defBody s_is_below) (defScope s_is_below) .none kV_is_below dc_is_below pm_is_below an_is_below cd_is_below ct_is_below), sl_is_below⟩)
    (c_is_below : PySem.W.codeIn K cd_is_below "is_below" = true)
    (k_is_below : PySem.W.keepIn K (.ref f_is_below) = true)
    (a__is_step : PySem.W.nsIn K mainGlobals "_is_step" = some (some (.ref f__is_step)))
    (l__is_step : K.lookup f__is_step = some ⟨oc__is_step, od__is_step, .func (PySem.W.fnOf "_is_step" "_is_step" (defArgs s__is_step) (defBody s__is_step) (defScope s__is_step) .none kV__is_step dc__is_step pm__is_step an__is_step cd__is_step ct__is_step), sl__is_step⟩)
    (c__is_step : PySem.W.codeIn K cd__is_step "_is_step" = true)
    (k__is_step : PySem.W.keepIn K (.ref f__is_step) = true)
    (a__is_table_row : PySem.W.nsIn K mainGlobals "_is_table_row" = some (some (.ref f__is_table_row)))
    (l__is_table_row : K.lookup f__is_table_row = some ⟨oc__is_table_row, od__is_table_row, .func (PySem.W.fnOf "_is_table_row" "_is_table_row" (defArgs s__is_table_row) (defBody s__is_table_row) (defScope s__is_table_row) .none kV__is_table_row dc__is_table_row pm__is_table_row an__is_table_row cd__is_table_row ct__is_table_row), sl__is_table_row⟩)
    (c__is_table_row : PySem.W.codeIn K cd__is_table_row "_is_table_row" = true)
    (k__is_table_row : PySem.W.keepIn K (.ref f__is_table_row) = true)
    (a__check_table : PySem.W.nsIn K mainGlobals "_check_table" = some (some (.ref f__check_table)))
    (l__check_table : K.lookup f__check_table = some ⟨oc__check_table, od__check_table, .func (PySem.W.fnOf "_check_table" "_check_table" (defArgs s__check_table) (defBody s__check_table) (defScope s__check_table) .none kV__check_table dc__check_table pm__check_table an__check_table cd__check_table ct__check_table), sl__check_table⟩)
    (c__check_table : PySem.W.codeIn K cd__check_table "_check_table" = true)
    (k__check_table : PySem.W.keepIn K (.ref f__check_table) = true)
    (m1_Machine_init : PySem.W.findIn K (.ref C) "__init__" = some (some (.ref f_Machine_init)))
    (l_Machine_init : K.lookup f_Machine_init = some ⟨oc_Machine_init, od_Machine_init, .func (PySem.W.fnOf "__init__" "Machine.__init__" (defArgs s_Machine_init) (defBody s_Machine_init) (defScope s_Machine_init) .none kV_Machine_init dc_Machine_init pm_Machine_init an_Machine_init cd_Machine_init ct_Machine_init), sl_Machine_init⟩)
    (c_Machine_init : PySem.W.codeIn K cd_Machine_init "Machine.__init__" = true)
    (k_Machine_init : PySem.W.keepIn K (.ref f_Machine_init) = true)
    (m2_Machine_init : PySem.W.isFn K (.ref f_Machine_init) = true)
    (a_check_stand : PySem.W.nsIn K mainGlobals "check_stand" = some (some (.ref f_check_stand)))
    (l_check_stand : K.lookup f_check_stand = some ⟨oc_check_stand, od_check_stand, .func (PySem.W.fnOf "check_stand" "check_stand" (defArgs s_check_stand) (defBody s_check_stand) (defScope s_check_stand) .none kV_check_stand dc_check_stand pm_check_stand an_check_stand cd_check_stand ct_check_stand), sl_check_stand⟩)
    (c_check_stand : PySem.W.codeIn K cd_check_stand "check_stand" = true)
    (k_check_stand : PySem.W.keepIn K (.ref f_check_stand) = true)
    (a__least_row_apart : PySem.W.nsIn K mainGlobals "_least_row_apart" = some (some (.ref f__least_row_apart)))
    (l__least_row_apart : K.lookup f__least_row_apart = some ⟨oc__least_row_apart, od__least_row_apart, .func (PySem.W.fnOf "_least_row_apart" "_least_row_apart" (defArgs s__least_row_apart) (defBody s__least_row_apart) (defScope s__least_row_apart) .none kV__least_row_apart dc__least_row_apart pm__least_row_apart an__least_row_apart cd__least_row_apart ct__least_row_apart), sl__least_row_apart⟩)
    (c__least_row_apart : PySem.W.codeIn K cd__least_row_apart "_least_row_apart" = true)
    (k__least_row_apart : PySem.W.keepIn K (.ref f__least_row_apart) = true)
    (a_told_apart : PySem.W.nsIn K mainGlobals "told_apart" = some (some (.ref f_told_apart)))
    (l_told_apart : K.lookup f_told_apart = some ⟨oc_told_apart, od_told_apart, .func (PySem.W.fnOf "told_apart" "told_apart" (defArgs s_told_apart) (defBody s_told_apart) (defScope s_told_apart) .none kV_told_apart dc_told_apart pm_told_apart an_told_apart cd_told_apart ct_told_apart), sl_told_apart⟩)
    (c_told_apart : PySem.W.codeIn K cd_told_apart "told_apart" = true)
    (k_told_apart : PySem.W.keepIn K (.ref f_told_apart) = true)
    (a_alike : PySem.W.nsIn K mainGlobals "alike" = some (some (.ref f_alike)))
    (l_alike : K.lookup f_alike = some ⟨oc_alike, od_alike, .func (PySem.W.fnOf "alike" "alike" (defArgs s_alike) (defBody s_alike) (defScope s_alike) .none kV_alike dc_alike pm_alike an_alike cd_alike ct_alike), sl_alike⟩)
    (c_alike : PySem.W.codeIn K cd_alike "alike" = true)
    (k_alike : PySem.W.keepIn K (.ref f_alike) = true)
    (a__law_mix : PySem.W.nsIn K mainGlobals "_law_mix" = some (some (.ref f__law_mix)))
    (l__law_mix : K.lookup f__law_mix = some ⟨oc__law_mix, od__law_mix, .func (PySem.W.fnOf "_law_mix" "_law_mix" (defArgs s__law_mix) (defBody s__law_mix) (defScope s__law_mix) .none kV__law_mix dc__law_mix pm__law_mix an__law_mix cd__law_mix ct__law_mix), sl__law_mix⟩)
    (c__law_mix : PySem.W.codeIn K cd__law_mix "_law_mix" = true)
    (k__law_mix : PySem.W.keepIn K (.ref f__law_mix) = true)
    (a__law_next : PySem.W.nsIn K mainGlobals "_law_next" = some (some (.ref f__law_next)))
    (l__law_next : K.lookup f__law_next = some ⟨oc__law_next, od__law_next, .func (PySem.W.fnOf "_law_next" "_law_next" (defArgs s__law_next) (defBody s__law_next) (defScope s__law_next) .none kV__law_next dc__law_next pm__law_next an__law_next cd__law_next ct__law_next), sl__law_next⟩)
    (c__law_next : PySem.W.codeIn K cd__law_next "_law_next" = true)
    (k__law_next : PySem.W.keepIn K (.ref f__law_next) = true)
    (a__law_pick : PySem.W.nsIn K mainGlobals "_law_pick" = some (some (.ref f__law_pick)))
    (l__law_pick : K.lookup f__law_pick = some ⟨oc__law_pick, od__law_pick, .func (PySem.W.fnOf "_law_pick" "_law_pick" (defArgs s__law_pick) (defBody s__law_pick) (defScope s__law_pick) .none kV__law_pick dc__law_pick pm__law_pick an__law_pick cd__law_pick ct__law_pick), sl__law_pick⟩)
    (c__law_pick : PySem.W.codeIn K cd__law_pick "_law_pick" = true)
    (k__law_pick : PySem.W.keepIn K (.ref f__law_pick) = true)
    (a__law_table : PySem.W.nsIn K mainGlobals "_law_table" = some (some (.ref f__law_table)))
    (l__law_table : K.lookup f__law_table = some ⟨oc__law_table, od__law_table, .func (PySem.W.fnOf "_law_table" "_law_table" (defArgs s__law_table) (defBody s__law_table) (defScope s__law_table) .none kV__law_table dc__law_table pm__law_table an__law_table cd__law_table ct__law_table), sl__law_table⟩)
    (c__law_table : PySem.W.codeIn K cd__law_table "_law_table" = true)
    (k__law_table : PySem.W.keepIn K (.ref f__law_table) = true)
    (a__law_walk : PySem.W.nsIn K mainGlobals "_law_walk" = some (some (.ref f__law_walk)))
    (l__law_walk : K.lookup f__law_walk = some ⟨oc__law_walk, od__law_walk, .func (PySem.W.fnOf "_law_walk" "_law_walk" (defArgs s__law_walk) (defBody s__law_walk) (defScope s__law_walk) .none kV__law_walk dc__law_walk pm__law_walk an__law_walk cd__law_walk ct__law_walk), sl__law_walk⟩)
    (c__law_walk : PySem.W.codeIn K cd__law_walk "_law_walk" = true)
    (k__law_walk : PySem.W.keepIn K (.ref f__law_walk) = true)
    (a__law_alike : PySem.W.nsIn K mainGlobals "_law_alike" = some (some (.ref f__law_alike)))
    (l__law_alike : K.lookup f__law_alike = some ⟨oc__law_alike, od__law_alike, .func (PySem.W.fnOf "_law_alike" "_law_alike" (defArgs s__law_alike) (defBody s__law_alike) (defScope s__law_alike) .none kV__law_alike dc__law_alike pm__law_alike an__law_alike cd__law_alike ct__law_alike), sl__law_alike⟩)
    (c__law_alike : PySem.W.codeIn K cd__law_alike "_law_alike" = true)
    (k__law_alike : PySem.W.keepIn K (.ref f__law_alike) = true)
    (a__law_far : PySem.W.nsIn K mainGlobals "_law_far" = some (some (.ref f__law_far)))
    (l__law_far : K.lookup f__law_far = some ⟨oc__law_far, od__law_far, .func (PySem.W.fnOf "_law_far" "_law_far" (defArgs s__law_far) (defBody s__law_far) (defScope s__law_far) .none kV__law_far dc__law_far pm__law_far an__law_far cd__law_far ct__law_far), sl__law_far⟩)
    (c__law_far : PySem.W.codeIn K cd__law_far "_law_far" = true)
    (k__law_far : PySem.W.keepIn K (.ref f__law_far) = true)
    (a__law_unlike : PySem.W.nsIn K mainGlobals "_law_unlike" = some (some (.ref f__law_unlike)))
    (l__law_unlike : K.lookup f__law_unlike = some ⟨oc__law_unlike, od__law_unlike, .func (PySem.W.fnOf "_law_unlike" "_law_unlike" (defArgs s__law_unlike) (defBody s__law_unlike) (defScope s__law_unlike) .none kV__law_unlike dc__law_unlike pm__law_unlike an__law_unlike cd__law_unlike ct__law_unlike), sl__law_unlike⟩)
    (c__law_unlike : PySem.W.codeIn K cd__law_unlike "_law_unlike" = true)
    (k__law_unlike : PySem.W.keepIn K (.ref f__law_unlike) = true)
    (a__law_rows : PySem.W.nsIn K mainGlobals "_law_rows" = some (some (.ref f__law_rows)))
    (l__law_rows : K.lookup f__law_rows = some ⟨oc__law_rows, od__law_rows, .func (PySem.W.fnOf "_law_rows" "_law_rows" (defArgs s__law_rows) (defBody s__law_rows) (defScope s__law_rows) .none kV__law_rows dc__law_rows pm__law_rows an__law_rows cd__law_rows ct__law_rows), sl__law_rows⟩)
    (c__law_rows : PySem.W.codeIn K cd__law_rows "_law_rows" = true)
    (k__law_rows : PySem.W.keepIn K (.ref f__law_rows) = true)
    (a_law : PySem.W.nsIn K mainGlobals "law" = some (some (.ref f_law)))
    (l_law : K.lookup f_law = some ⟨oc_law, od_law, .func (PySem.W.fnOf "law" "law" (defArgs s_law) (defBody s_law) (defScope s_law) .none kV_law dc_law pm_law an_law cd_law ct_law), sl_law⟩)
    (c_law : PySem.W.codeIn K cd_law "law" = true)
    (k_law : PySem.W.keepIn K (.ref f_law) = true)
    : ∃ fd : FuncData, (∀ (s : Shared) (v : Value), BindsTo s fd ⟨[v], []⟩ [("_law_script", v)]) ∧ ∀ base : Heap, K.In base → base.Ns mainGlobals mg → FnOk l.prog w K mg base CX0 7 fa fd ["_law_script"] (spLaw K) := by
  have e := hfa.symm.trans (PySem.W.mg_of X G a_law)
  cases e
  refine ⟨PySem.W.fnOf "law" "law" (defArgs s_law) (defBody s_law) (defScope s_law) .none kV_law dc_law pm_law an_law cd_law ct_law, fun s v => .of_eq rfl, fun base _ _ => ?_⟩
  have B : Blt mg := ⟨PySem.W.mg_none_of X G z_set, PySem.W.mg_none_of X G z_len, PySem.W.mg_none_of X G z_isinstance, PySem.W.mg_none_of X G z_int, PySem.W.mg_none_of X G z_bool, PySem.W.mg_none_of X G z_tuple, PySem.W.mg_none_of X G z_list, PySem.W.mg_none_of X G z_str, PySem.W.mg_none_of X G z_range, PySem.W.mg_none_of X G z_enumerate, PySem.W.mg_none_of X G z_max, PySem.W.mg_none_of X G z_min, PySem.W.mg_none_of X G z_all, PySem.W.mg_none_of X G z_any, PySem.W.mg_none_of X G z_sorted, PySem.W.mg_none_of X G z_sum, PySem.W.mg_none_of X G z_zip⟩
  have gi_MOST_STANDS := PySem.W.mg_of X G g_MOST_STANDS
  have gi_WRITTEN_LETTERS := PySem.W.mg_of X G g_WRITTEN_LETTERS
  have gr_LETTER_COUNTS := PySem.W.mg_of X G g_LETTER_COUNTS
  have h_LETTER_COUNTS : ∀ H : Hp, SqT K H a_LETTER_COUNTS [.int 2, .int 3] := fun H => .inr ⟨_, _, _, o_LETTER_COUNTS, rfl, rfl, (by show 2 ≤ sizeLine; decide), (.cons ⟨_, rfl⟩ (.cons ⟨_, rfl⟩ .nil))⟩
  have T : Txt K C := ⟨⟨pgC, hdC, poC, saC⟩, n__table⟩
  have F_Machine_table := fun_mk (st := s_Machine_table) l_Machine_table c_Machine_table k_Machine_table
  have p_table : PropK l.prog w K mg base 1 C "table" (spMGet K C) := ⟨T.cl, pa_Machine_table, f_Machine_table, _, ⟨pa1_Machine_table, pa2_Machine_table, pa3_Machine_table, rest_Machine_table, pa4_Machine_table⟩, ok_Machine_table F_Machine_table T, F_Machine_table.binds (ps := ["self"]) fun _ _ _ _ _ _ us hl => match us, hl with | [_], _ => rfl⟩
  have F_Machine_letters := fun_mk (st := s_Machine_letters) l_Machine_letters c_Machine_letters k_Machine_letters
  have p_letters : PropK l.prog w K mg base 1 C "letters" (spMLet K C) := ⟨T.cl, pa_Machine_letters, f_Machine_letters, _, ⟨pa1_Machine_letters, pa2_Machine_letters, pa3_Machine_letters, rest_Machine_letters, pa4_Machine_letters⟩, ok_Machine_letters F_Machine_letters T B, F_Machine_letters.binds (ps := ["self"]) fun _ _ _ _ _ _ us hl => match us, hl with | [_], _ => rfl⟩
  have F_Machine_len := fun_mk (st := s_Machine_len) l_Machine_len c_Machine_len k_Machine_len
  have l_Machine : LenK l.prog w K mg base 1 C (spMLen K C) := ⟨f_Machine_len, _, m1_Machine_len, m2_Machine_len, ok_Machine_len F_Machine_len T B, F_Machine_len.binds (ps := ["self"]) fun _ _ _ _ _ _ us hl => match us, hl with | [_], _ => rfl⟩
  have F_is_below := fun_mk (st := s_is_below) l_is_below c_is_below k_is_below
  have bd_is_below := F_is_below.binds (ps := P_is_below) fun _ _ _ _ _ _ us hl => match us, hl with | [_, _], _ => rfl
  have mg_is_below := PySem.W.mg_of X G a_is_below
  have G_is_below : DefK l.prog w K mg base CX0 1 "is_below" P_is_below (spBelow K) := ⟨f_is_below, _, ok_is_below F_is_below B, mg_is_below, k_is_below, bd_is_below⟩
  have F__is_step := fun_mk (st := s__is_step) l__is_step c__is_step k__is_step
  have bd__is_step := F__is_step.binds (ps := P__is_step) fun _ _ _ _ _ _ us hl => match us, hl with | [_, _], _ => rfl
  have mg__is_step := PySem.W.mg_of X G a__is_step
  have G__is_step : DefK l.prog w K mg base CX0 2 "_is_step" P__is_step (spStep K) := ⟨f__is_step, _, ok_is_step F__is_step B gi_WRITTEN_LETTERS G_is_below, mg__is_step, k__is_step, bd__is_step⟩
  have F__is_table_row := fun_mk (st := s__is_table_row) l__is_table_row c__is_table_row k__is_table_row
  have bd__is_table_row := F__is_table_row.binds (ps := P__is_table_row) fun _ _ _ _ _ _ us hl => match us, hl with | [_, _], _ => rfl
  have mg__is_table_row := PySem.W.mg_of X G a__is_table_row
  have G__is_table_row : DefK l.prog w K mg base CX0 3 "_is_table_row" P__is_table_row (spRowOk K) := ⟨f__is_table_row, _, ok_is_table_row F__is_table_row B gr_LETTER_COUNTS h_LETTER_COUNTS G__is_step, mg__is_table_row, k__is_table_row, bd__is_table_row⟩
  have F__check_table := fun_mk (st := s__check_table) l__check_table c__check_table k__check_table
  have bd__check_table := F__check_table.binds (ps := P__check_table) fun _ _ _ _ _ _ us hl => match us, hl with | [_], _ => rfl
  have mg__check_table := PySem.W.mg_of X G a__check_table
  have G__check_table : DefK l.prog w K mg base CX0 4 "_check_table" P__check_table (spTabOk K) := ⟨f__check_table, _, ok_check_table F__check_table B gi_MOST_STANDS G__is_table_row, mg__check_table, k__check_table, bd__check_table⟩
  have F_Machine_init := fun_mk (st := s_Machine_init) l_Machine_init c_Machine_init k_Machine_init
  have m_Machine : MkK l.prog w K mg base CX0 5 C "Machine" P_Machine_init (spMInit K C) := ⟨PySem.W.mg_of X G aC, f_Machine_init, _, ⟨mkC, m1_Machine_init, m2_Machine_init, kcC⟩, ok_Machine_init F_Machine_init T G__check_table, F_Machine_init.binds (ps := P_Machine_init) fun _ _ _ _ _ _ us hl => match us, hl with | [_, _], _ => rfl⟩
  have F_check_stand := fun_mk (st := s_check_stand) l_check_stand c_check_stand k_check_stand
  have bd_check_stand := F_check_stand.binds (ps := P_check_stand) fun _ _ _ _ _ _ us hl => match us, hl with | [_, _], _ => rfl
  have mg_check_stand := PySem.W.mg_of X G a_check_stand
  have G_check_stand : DefK l.prog w K mg base CX0 3 "check_stand" P_check_stand (spStandOk K C) := ⟨f_check_stand, _, ok_check_stand F_check_stand B G_is_below l_Machine, mg_check_stand, k_check_stand, bd_check_stand⟩
  have F__least_row_apart := fun_mk (st := s__least_row_apart) l__least_row_apart c__least_row_apart k__least_row_apart
  have bd__least_row_apart := F__least_row_apart.binds (ps := P__least_row_apart) fun _ _ _ _ _ _ us hl => match us, hl with | [_, _, _], _ => rfl
  have mg__least_row_apart := PySem.W.mg_of X G a__least_row_apart
  have G__least_row_apart : DefK l.prog w K mg base CX0 3 "_least_row_apart" P__least_row_apart (spLeast K C) := ⟨f__least_row_apart, _, ok_least_row_apart F__least_row_apart B p_table p_letters, mg__least_row_apart, k__least_row_apart, bd__least_row_apart⟩
  have F_told_apart := fun_mk (st := s_told_apart) l_told_apart c_told_apart k_told_apart
  have bd_told_apart := F_told_apart.binds (ps := P_told_apart) fun _ _ _ _ _ _ us hl => match us, hl with | [_, _, _], _ => rfl
  have mg_told_apart := PySem.W.mg_of X G a_told_apart
  have G_told_apart : DefK l.prog w K mg base CX0 4 "told_apart" P_told_apart (spTold K C) := ⟨f_told_apart, _, ok_told_apart F_told_apart G_check_stand G__least_row_apart, mg_told_apart, k_told_apart, bd_told_apart⟩
  have F_alike := fun_mk (st := s_alike) l_alike c_alike k_alike
  have bd_alike := F_alike.binds (ps := P_alike) fun _ _ _ _ _ _ us hl => match us, hl with | [_], _ => rfl
  have mg_alike := PySem.W.mg_of X G a_alike
  have G_alike : DefK l.prog w K mg base CX0 4 "alike" P_alike (spAlikeM K C) := ⟨f_alike, _, ok_alike F_alike B l_Machine G__least_row_apart, mg_alike, k_alike, bd_alike⟩
  have F__law_mix := fun_mk (st := s__law_mix) l__law_mix c__law_mix k__law_mix
  have bd__law_mix := F__law_mix.binds (ps := P__law_mix) fun _ _ _ _ _ _ us hl => match us, hl with | [_, _], _ => rfl
  have mg__law_mix := PySem.W.mg_of X G a__law_mix
  have G__law_mix : DefK l.prog w K mg base CX0 1 "_law_mix" P__law_mix (spMix K) := ⟨f__law_mix, _, ok_law_mix F__law_mix B, mg__law_mix, k__law_mix, bd__law_mix⟩
  have F__law_next := fun_mk (st := s__law_next) l__law_next c__law_next k__law_next
  have bd__law_next := F__law_next.binds (ps := P__law_next) fun _ _ _ _ _ _ us hl => match us, hl with | [_, _], _ => rfl
  have mg__law_next := PySem.W.mg_of X G a__law_next
  have G__law_next : DefK l.prog w K mg base CX0 1 "_law_next" P__law_next (spNext) := ⟨f__law_next, _, ok_law_next F__law_next B, mg__law_next, k__law_next, bd__law_next⟩
  have F__law_pick := fun_mk (st := s__law_pick) l__law_pick c__law_pick k__law_pick
  have bd__law_pick := F__law_pick.binds (ps := P__law_pick) fun _ _ _ _ _ _ us hl => match us, hl with | [_, _], _ => rfl
  have mg__law_pick := PySem.W.mg_of X G a__law_pick
  have G__law_pick : DefK l.prog w K mg base CX0 2 "_law_pick" P__law_pick (spPick) := ⟨f__law_pick, _, ok_law_pick F__law_pick B G__law_next, mg__law_pick, k__law_pick, bd__law_pick⟩
  have F__law_table := fun_mk (st := s__law_table) l__law_table c__law_table k__law_table
  have bd__law_table := F__law_table.binds (ps := P__law_table) fun _ _ _ _ _ _ us hl => match us, hl with | [_], _ => rfl
  have mg__law_table := PySem.W.mg_of X G a__law_table
  have G__law_table : DefK l.prog w K mg base CX0 3 "_law_table" P__law_table (spTable K) := ⟨f__law_table, _, ok_law_table F__law_table B G__law_next G__law_pick, mg__law_table, k__law_table, bd__law_table⟩
  have F__law_walk := fun_mk (st := s__law_walk) l__law_walk c__law_walk k__law_walk
  have bd__law_walk := F__law_walk.binds (ps := P__law_walk) fun _ _ _ _ _ _ us hl => match us, hl with | [_, _, _], _ => rfl
  have mg__law_walk := PySem.W.mg_of X G a__law_walk
  have G__law_walk : DefK l.prog w K mg base CX0 1 "_law_walk" P__law_walk (spLWalk K) := ⟨f__law_walk, _, ok_law_walk F__law_walk B, mg__law_walk, k__law_walk, bd__law_walk⟩
  have F__law_alike := fun_mk (st := s__law_alike) l__law_alike c__law_alike k__law_alike
  have bd__law_alike := F__law_alike.binds (ps := P__law_alike) fun _ _ _ _ _ _ us hl => match us, hl with | [_, _], _ => rfl
  have mg__law_alike := PySem.W.mg_of X G a__law_alike
  have G__law_alike : DefK l.prog w K mg base CX0 3 "_law_alike" P__law_alike (spAlike K 3) := ⟨f__law_alike, _, ok_law_alike F__law_alike B mg__law_alike bd__law_alike 3, mg__law_alike, k__law_alike, bd__law_alike⟩
  have F__law_far := fun_mk (st := s__law_far) l__law_far c__law_far k__law_far
  have bd__law_far := F__law_far.binds (ps := P__law_far) fun _ _ _ _ _ _ us hl => match us, hl with | [_, _, _], _ => rfl
  have mg__law_far := PySem.W.mg_of X G a__law_far
  have G__law_far : DefK l.prog w K mg base CX0 1 "_law_far" P__law_far (spFar K) := ⟨f__law_far, _, ok_law_far F__law_far B, mg__law_far, k__law_far, bd__law_far⟩
  have F__law_unlike := fun_mk (st := s__law_unlike) l__law_unlike c__law_unlike k__law_unlike
  have bd__law_unlike := F__law_unlike.binds (ps := P__law_unlike) fun _ _ _ _ _ _ us hl => match us, hl with | [_, _, _, _], _ => rfl
  have mg__law_unlike := PySem.W.mg_of X G a__law_unlike
  have G__law_unlike : DefK l.prog w K mg base CX0 2 "_law_unlike" P__law_unlike (spUnlike K) := ⟨f__law_unlike, _, ok_law_unlike F__law_unlike G__law_walk, mg__law_unlike, k__law_unlike, bd__law_unlike⟩
  have F__law_rows := fun_mk (st := s__law_rows) l__law_rows c__law_rows k__law_rows
  have bd__law_rows := F__law_rows.binds (ps := P__law_rows) fun _ _ _ _ _ _ us hl => match us, hl with | [_, _], _ => rfl
  have mg__law_rows := PySem.W.mg_of X G a__law_rows
  have G__law_rows : DefK l.prog w K mg base CX0 1 "_law_rows" P__law_rows (spRows K) := ⟨f__law_rows, _, ok_law_rows F__law_rows B, mg__law_rows, k__law_rows, bd__law_rows⟩
  exact ok_law (fun_mk (st := s_law) l_law c_law k_law) B G__law_mix G__law_table G__law_far G__law_unlike G__law_rows G__law_alike G_told_apart G_alike m_Machine
theorem walk_law {l : PySem.W.OpenLaw} {q : Program} {loose : List Str} {XP : (Str → Option Value) → Heap → Prop} {YP : World → Heap → Prop} {d : DefRec} {K : Params → PySem.W.Frag} (hn : l.most = some 63) (hdf : d.params.defaults = [])
    (hY : ∀ (w : World) (h : Heap), YP w h → (K w.params).In h)
    (F : ∀ (w : World) (mg : Str → Option Value) (fa : Addr) (h : Heap), (K w.params).In h → h.Ns mainGlobals mg → mg d.name = some (.ref fa) →
      ∃ fd : FuncData, (∀ (s : Shared) (u : Value), BindsTo s fd ⟨[u], []⟩ [("_law_script", u)]) ∧ ∀ base : Heap, (K w.params).In base → base.Ns mainGlobals mg → FnOk l.prog w (K w.params) mg base CX0 7 fa fd ["_law_script"] (spLaw (K w.params))) :
    PySem.W.WalkO q loose XP YP l.row.toRowW d [] (fun f vs => PySem.call f vs) :=
  L2.walk_of (n := 63) (k := 7) (x := "_law_script") (CX := fun _ => CX0) (sp := fun w => spLaw (K w.params)) hn (by decide) hdf ⟨rfl, by decide, by decide⟩ hY F (fun _ _ a ns hl _ hS => ⟨a, ns, rfl, hS, hl, fun _ => rfl⟩) fun _ _ _ _ _ z => z
end WS
open PySem PySem.W PyProof.Rows in
set_option maxRecDepth 100000 in
set_option maxHeartbeats 0 in
theorem PySem.Challenge.cw_whichstand_k03_whole_told_apart_holds : PySem.Challenge.rw_whichstand_k03_whole_told_apart.Holds := by
  w_on; o_law; k_head; (case hw => w_witness2)
  k_fill
  refine WS.walk_law (l := PySem.Challenge.rw_whichstand_k03_whole_told_apart) rfl rfl (fun w h Y => PySem.W.kIn_of Y) ?F
  case F =>
    intro w mg fa h KX G hmg
    refine' WS.all_mk KX G hmg ?z_set ?z_len ?z_isinstance ?z_int ?z_bool ?z_tuple ?z_list ?z_str ?z_range ?z_enumerate ?z_max ?z_min ?z_all ?z_any ?z_sorted ?z_sum ?z_zip ?g_MOST_STANDS ?g_WRITTEN_LETTERS ?g_LETTER_COUNTS ?o_LETTER_COUNTS ?aC ?pgC ?hdC ?poC ?saC ?mkC ?kcC ?n__table ?pa1_Machine_table ?pa2_Machine_table ?pa3_Machine_table ?pa4_Machine_table ?l_Machine_table ?c_Machine_table ?k_Machine_table ?pa1_Machine_letters ?pa2_Machine_letters ?pa3_Machine_letters ?pa4_Machine_letters ?l_Machine_letters ?c_Machine_letters ?k_Machine_letters ?m1_Machine_len ?l_Machine_len ?c_Machine_len ?k_Machine_len ?m2_Machine_len ?a_is_below ?l_is_below ?c_is_below ?k_is_below ?a__is_step ?l__is_step ?c__is_step ?k__is_step ?a__is_table_row ?l__is_table_row ?c__is_table_row ?k__is_table_row ?a__check_table ?l__check_table ?c__check_table ?k__check_table ?m1_Machine_init ?l_Machine_init ?c_Machine_init ?k_Machine_init ?m2_Machine_init ?a_check_stand ?l_check_stand ?c_check_stand ?k_check_stand ?a__least_row_apart ?l__least_row_apart ?c__least_row_apart ?k__least_row_apart ?a_told_apart ?l_told_apart ?c_told_apart ?k_told_apart ?a_alike ?l_alike ?c_alike ?k_alike ?a__law_mix ?l__law_mix ?c__law_mix ?k__law_mix ?a__law_next ?l__law_next ?c__law_next ?k__law_next ?a__law_pick ?l__law_pick ?c__law_pick ?k__law_pick ?a__law_table ?l__law_table ?c__law_table ?k__law_table ?a__law_walk ?l__law_walk ?c__law_walk ?k__law_walk ?a__law_alike ?l__law_alike ?c__law_alike ?k__law_alike ?a__law_far ?l__law_far ?c__law_far ?k__law_far ?a__law_unlike ?l__law_unlike ?c__law_unlike ?k__law_unlike ?a__law_rows ?l__law_rows ?c__law_rows ?k__law_rows ?a_law ?l_law ?c_law ?k_law
    (case z_set => k_is)
    (case z_len => k_is)
    (case z_isinstance => k_is)
    (case z_int => k_is)
    (case z_bool => k_is)
    (case z_tuple => k_is)
    (case z_list => k_is)
    (case z_str => k_is)
    (case z_range => k_is)
    (case z_enumerate => k_is)
    (case z_max => k_is)
    (case z_min => k_is)
    (case z_all => k_is)
    (case z_any => k_is)
    (case z_sorted => k_is)
    (case z_sum => k_is)
    (case z_zip => k_is)
    (case g_MOST_STANDS => k_is)
    (case g_WRITTEN_LETTERS => k_is)
    (case g_LETTER_COUNTS => k_is)
    (case o_LETTER_COUNTS => k_is)
    (case aC => k_is)
    (case pgC => k_is)
    (case hdC => k_is)
    (case poC => k_is)
    (case saC => k_is)
    (case mkC => k_is)
    (case kcC => k_is)
    (case n__table => k_is)
    (case pa1_Machine_table => k_is)
    (case pa2_Machine_table => k_is)
    (case pa3_Machine_table => k_is)
    (case pa4_Machine_table => k_is)
    (case l_Machine_table => k_is)
    (case c_Machine_table => k_is)
    (case k_Machine_table => k_is)
    (case pa1_Machine_letters => k_is)
    (case pa2_Machine_letters => k_is)
    (case pa3_Machine_letters => k_is)
    (case pa4_Machine_letters => k_is)
    (case l_Machine_letters => k_is)
    (case c_Machine_letters => k_is)
    (case k_Machine_letters => k_is)
    (case m1_Machine_len => k_is)
    (case l_Machine_len => k_is)
    (case c_Machine_len => k_is)
    (case k_Machine_len => k_is)
    (case m2_Machine_len => k_is)
    (case a_is_below => k_is)
    (case l_is_below => k_is)
    (case c_is_below => k_is)
    (case k_is_below => k_is)
    (case a__is_step => k_is)
    (case l__is_step => k_is)
    (case c__is_step => k_is)
    (case k__is_step => k_is)
    (case a__is_table_row => k_is)
    (case l__is_table_row => k_is)
    (case c__is_table_row => k_is)
    (case k__is_table_row => k_is)
    (case a__check_table => k_is)
    (case l__check_table => k_is)
    (case c__check_table => k_is)
    (case k__check_table => k_is)
    (case m1_Machine_init => k_is)
    (case l_Machine_init => k_is)
    (case c_Machine_init => k_is)
    (case k_Machine_init => k_is)
    (case m2_Machine_init => k_is)
    (case a_check_stand => k_is)
    (case l_check_stand => k_is)
    (case c_check_stand => k_is)
    (case k_check_stand => k_is)
    (case a__least_row_apart => k_is)
    (case l__least_row_apart => k_is)
    (case c__least_row_apart => k_is)
    (case k__least_row_apart => k_is)
    (case a_told_apart => k_is)
    (case l_told_apart => k_is)
    (case c_told_apart => k_is)
    (case k_told_apart => k_is)
    (case a_alike => k_is)
    (case l_alike => k_is)
    (case c_alike => k_is)
    (case k_alike => k_is)
    (case a__law_mix => k_is)
    (case l__law_mix => k_is)
    (case c__law_mix => k_is)
    (case k__law_mix => k_is)
    (case a__law_next => k_is)
    (case l__law_next => k_is)
    (case c__law_next => k_is)
    (case k__law_next => k_is)
    (case a__law_pick => k_is)
    (case l__law_pick => k_is)
    (case c__law_pick => k_is)
    (case k__law_pick => k_is)
    (case a__law_table => k_is)
    (case l__law_table => k_is)
    (case c__law_table => k_is)
    (case k__law_table => k_is)
    (case a__law_walk => k_is)
    (case l__law_walk => k_is)
    (case c__law_walk => k_is)
    (case k__law_walk => k_is)
    (case a__law_alike => k_is)
    (case l__law_alike => k_is)
    (case c__law_alike => k_is)
    (case k__law_alike => k_is)
    (case a__law_far => k_is)
    (case l__law_far => k_is)
    (case c__law_far => k_is)
    (case k__law_far => k_is)
    (case a__law_unlike => k_is)
    (case l__law_unlike => k_is)
    (case c__law_unlike => k_is)
    (case k__law_unlike => k_is)
    (case a__law_rows => k_is)
    (case l__law_rows => k_is)
    (case c__law_rows => k_is)
    (case k__law_rows => k_is)
    (case a_law => k_is)
    (case l_law => k_is)
    (case c_law => k_is)
    (case k_law => k_is)
