import PyProof.Rows.All
import Wide.All
import OpenK.AllK
import Wide.FinOn
import HandS.ForMost
import HandS.Iter
import HandS.IsInst
import HandS.Style
import HandS.Property
import HandS.TupAny
import KE.GoesEnum
import KE.KDictDisplayH
import KE.KExcSuper
import KE.KSuper
import HandS.ForSpec
import HandS.FStr
import HandS.OwnEq
import HandS.ExcIs
import KE.KExcIs
import HandS.TupMul
import PySem.Challenge.RW_whichstand_k01_tables_refused
set_option Elab.async false
set_option linter.all false
set_option maxRecDepth 100000
set_option maxHeartbeats 4000000
namespace EnT
open PySem PySem.Spec PyProof.Rows L2
theorem made (v : Value) (ob : Obj) (G : Heap → Prop) (B : Begins v ob G) :
    Meets (Builtin.«enumerate.__new__» ⟨[.type "enumerate", v], []⟩) (fun _ R s => G s.heap ∧
      R (.ok (.ret (.ref (s.heap.push ob).objs.size))) { s with heap := (s.heap.push ob).push { cls := .type "enumerate", data := .fields #[.none, .bool false, .ref s.heap.objs.size, rawInt 0, .none, .none] } }) := by
  refine .of_wp ?_
  intro pr w' A' R' sh hh
  obtain ⟨hp, gs, dr, tk, os⟩ := sh
  obtain ⟨g1, hh⟩ := hh
  have hsub' := sub_enumerate
  have it : ∀ {B1 : Around} {E1 : Value → Shared → Prop} {Q1 : Value → Shared → Prop}, Q1 (.ref hp.objs.size) ⟨hp.push ob, gs, dr, tk, os⟩ → wpAny (model pr w') B1 (pyIter v) Q1 E1 ⟨hp, gs, dr, tk, os⟩ := by
    intro B1 E1 Q1 q
    exact B.iter pr w' _ _ ⟨hp, gs, dr, tk, os⟩ _ g1 q
  wp_walk using it
  refine wpAny_stack_any (fun _ => wpAny_pure ?_)
  split
  · rename_i cc _ _ _ _ _
    cases (cc == Value.type "enumerate") <;> (wp_walk using it; exact ⟨_, rfl, hh⟩)
  · (wp_walk using it; exact ⟨_, rfl, hh⟩)

section
variable {prog : Program} {w : World} {A : Around} {E : Value → Shared → Prop} {s : Shared}
theorem begin1 {t : Addr} {its : Array Value} {Q : Value → Shared → Prop} (g1 : s.heap.IsTuple t its)
    (q : ∀ h', IsEnum h' (s.heap.objs.size + 1) s.heap.objs.size 0 .none → h'.IsTupleIter s.heap.objs.size t 0 → (∀ b o, s.heap.get? b = some o → h'.get? b = some o) →
      Q (.ref (s.heap.objs.size + 1)) { s with heap := h' }) : wpAny (model prog w) A (call (.type "enumerate") [.ref t]) Q E s := by
  refine callType_new F.called_enumerate (by decide) (F.typeCall_enumerate_1 _) (F.newCall_enumerate_1 _) (fun ob => F.args_object_init_2 ob _) F.entry_enumerate_new (made _ _ _ (begins_tuple t its)) ⟨g1, ?_⟩
  generalize eo : ({ cls := .type "tuple_iterator", data := .fields #[.ref t, .int 0 0] } : Obj) = io
  have fr : io.isFreed = false := by rw [← eo]; rfl
  have sz : (s.heap.push io).objs.size = s.heap.objs.size + 1 := Heap.size_push ..
  have en : IsEnum ((s.heap.push io).push { cls := .type "enumerate", data := .fields #[.none, .bool false, .ref s.heap.objs.size, rawInt 0, .none, .none] }) (s.heap.objs.size + 1) s.heap.objs.size 0 .none := by
    have z := Heap.get?_push_size (s.heap.push io) (o := { cls := .type "enumerate", data := .fields #[.none, .bool false, .ref s.heap.objs.size, rawInt 0, .none, .none] }) rfl
    rw [sz] at z
    exact z
  show _ ∧ _
  rw [sz]
  refine ⟨⟨_, en, rfl⟩, q _ en ?_ (fun b o e => Heap.get?_push_of_some _ (Heap.get?_push_of_some _ e))⟩
  exact ⟨io, Heap.get?_push_of_some _ (Heap.get?_push_size _ fr), by rw [← eo], by rw [← eo] <;> rfl⟩
end
/-- the tuple at a, each item in a new pair behind its place -/
def ItT (K : PySem.W.Frag) (a : Addr) : It where
  go i H := ∃ ys y, SqT K H a ys ∧ ys[i]? = some y
  yld i H v H' := ∃ T y, v = .ref T ∧ H T = none ∧ H' = upd H T (.tup [.int (i : Nat), y]) ∧ ∀ ys, SqT K H a ys → ys[i]? = some y
  stop i H := ∃ ys : List V, SqT K H a ys ∧ ys.length ≤ i
theorem cls_ne {h : Heap} {a b : Addr} {o u : Obj} (x : h.get? a = some o) (y : h.get? b = some u) (n : o.cls ≠ u.cls) : a ≠ b := by
  intro z
  rw [z, y] at x
  exact n (congrArg Obj.cls (Option.some.inj x)).symm
theorem turnT {P : Program} {w : World} {K : PySem.W.Frag} {elts : List Expr} {kk : Nat} {tpos : Pos} (a e it : Addr) :
    Turn P w K (.Tuple elts kk tpos) (ItT K a) [e, it] e (fun i h => (∃ old, IsEnum h e it ((i : Nat) : Int) old) ∧ h.IsTupleIter it a i ∧ e ≠ it) where
  mem := List.mem_cons_self
  obj := by
    rintro i h ⟨⟨old, he⟩, ⟨o, ho, hc, hd⟩, _⟩ b hb
    rcases List.mem_cons.mp hb with z | z
    · exact z ▸ ⟨_, he, fun v q => nomatch q⟩
    · rw [List.mem_singleton.mp z]
      exact ⟨o, ho, fun v q => by rw [hd] at q; cases q⟩
  keep := by
    rintro i h h' ⟨⟨old, he⟩, hi, hne⟩ k
    exact ⟨⟨old, k e List.mem_cons_self _ he⟩, hi.at (fun o q => k it (by simp) o q), hne⟩
  item := by
    rintro X rfl rfl rfl hcalm i pins s σ H E I hf ⟨⟨old, he⟩, hit, hne⟩ ⟨ys, y, hq, hy⟩
    obtain ⟨its, rv, tp, -⟩ := I.tuple hq
    have tp' : s.heap.IsTuple a its.toArray := tp
    obtain ⟨u, hu, ru⟩ := rv.get hy
    have hlt : i < its.toArray.size := by
      have := (List.getElem?_eq_some_iff.mp hu).1
      simpa using this
    obtain ⟨oa, ga, ca, -⟩ := id tp'
    obtain ⟨oi, gi, ci, -⟩ := id hit
    have a_it : a ≠ it := cls_ne ga gi (by rw [ca, ci]; decide)
    have e_a : e ≠ a := cls_ne he ga (by rw [ca]; show Value.type "enumerate" ≠ Value.type "tuple"; decide)
    have sz_e : e < s.heap.objs.size := Heap.lt_size he
    have sz_i : it < s.heap.objs.size := Heap.lt_size gi
    have D : Draws X.prog X.w X.A.in1 it [it, a] its.toArray.size (fun j v => its.toArray[j]? = some v) (fun j h => h.IsTupleIter it a j ∧ h.IsTuple a its.toArray) := Draws.tuple (A := X.A.in1) (show X.A.in1.handled = none from I.ok.hd hcalm) it a a_it its.toArray
    refine wpAny_pyNext_enum_itemD D he ⟨hit, tp'⟩ hlt hne (by simp [hne, e_a]) ?_
    intro x h' tk px ho hst hT hsz hk
    have ex : x = u := by
      have z : its[i]? = some x := by simpa using px
      rw [hu] at z
      exact (Option.some.inj z).symm
    subst ex
    refine ⟨_, rfl, wpAny_letOwnedTupleGo_enum (s := { s with heap := h', toks := tk + 1 }) ho ?_⟩
    intro h2 he2 sb
    have T2 : h2.get? s.heap.objs.size = some { cls := .type "tuple", data := .seq #[.int i tk, x] } := (sb.2 _ (Nat.ne_of_gt sz_e)).trans hT
    have new : ObjOk X.prog X.w (upd H s.heap.objs.size (.tup [.int (i : Nat), y])) h2 s.heap.objs.size (.tup [.int (i : Nat), y]) := by
      refine ⟨by show 2 ≤ sizeLine; decide, [.int i tk, x], .cons ⟨tk, rfl⟩ (.cons ru .nil), ?_⟩
      exact ⟨_, T2, rfl, _, rfl⟩
    have I1 := I.turnedNew (t' := tk + 1) (ch := [e, it]) (fun b ob hb q => by
      have b1 : b ≠ e := fun z => hb (by simp [z])
      have b2 : b ≠ it := fun z => hb (by simp [z])
      exact (sb.2 b b1).trans (hk b ob b1 b2 q)) hf (Nat.le_refl _) new
    refine ⟨.ref s.heap.objs.size, _, I1, rfl, ?_, ?_, ?_⟩
    · exact ⟨_, y, rfl, I.hok.fresh (Nat.le_refl _), rfl, fun zs hz => by rw [I.tuple_inj hz hq]; exact hy⟩
    · have e1 : ((i + 1 : Nat) : Int) = (i : Int) + 1 := by omega
      exact ⟨⟨x, by rw [e1]; exact he2⟩, hst.1.at (fun o q => (sb.2 it (Ne.symm hne)).trans q), hne⟩
    · intro b hb
      have lt : b < s.heap.objs.size := by
        rcases List.mem_cons.mp hb with z | z
        · rw [z]; exact sz_e
        · rw [List.mem_singleton.mp z]; exact sz_i
      rw [upd_ne (Nat.ne_of_lt lt)]
      exact (hf b hb).1
  done := by
    rintro X rfl rfl rfl hcalm i pins s σ H E I hf ⟨⟨old, he⟩, hit, hne⟩ ⟨ys, hq, hy⟩
    obtain ⟨its, rv, tp, -⟩ := I.tuple hq
    have tp' : s.heap.IsTuple a its.toArray := tp
    obtain ⟨f0, f1, f2, f3, f4, f5⟩ := hf it (by simp)
    have hle : its.toArray[i]? = none := by
      have := rv.length
      simp
      omega
    obtain ⟨oi, gi, ci, di⟩ := id hit
    have hT : s.TypeIs (.ref e) "enumerate" := ⟨_, he, rfl⟩
    unfold pyNext
    refine wpAny_bind (wpAny_attempt (wpAny_callSpecial?_slot (name := Str.ofString "__next__") hT F.slot_enumerate_next (wpAny_call_entry F.slot_enumerate_next hT F.entry_enumerate_next ?_ (F.args_enumerate_next_1 _))))
    show wpAny _ _ (field (.ref e) 2 >>= _) _ _ _
    refine wpAny_bind (wpAny_field he rfl (x := .ref it) rfl (wpAny_bind (wpAny_nextOf_tuple_end (I.ok.hd hcalm) hit tp' hle ?_)))
    rintro h' x eb ⟨o, ho, hc⟩
    refine wpAny_bind (wpAny_isInstance (T := "StopIteration") (b := true) ⟨o, ho, hc⟩ isSubtype_stop (wpAny_pure ?_))
    exact ⟨rfl, I.turned (t' := s.toks) (fun b o hb q => eb b o hb q) f0 f1 f3 f4 f5⟩
  self := by
    rintro A i s Q E ⟨⟨_, he⟩, _⟩ q
    exact wpAny_pyIter_enum he q
def iEnT (K : PySem.W.Frag) (ta : TA) : TI := fun σ H R => ta σ H fun vs H1 => ∃ a ys, vs = [.ref a] ∧ SqT K H1 a ys ∧ R (ItT K a) H1
theorem pi_enumT {X : Cx} {e : Expr} {ta : TA} {p pos tpos : Pos} {elts : List Expr} {kk : Nat} (hg : Gl X "enumerate") (hm : X.mg "enumerate" = none) (ha : PA X [e] ta) (hs : starEach [e] X.env = [(false, eval e X.env)] := by rfl) :
    PI X (.Tuple elts kk tpos) (.Call (.Name "enumerate" p) [e] [] pos) (iEnT X.K ta) := by
  constructor
  intro pins s σ H R I h
  refine Call_ (ld_blt I hg hm boot_enumerate (PyProof.Rows.callWith_type1 (thn (ha.run pos pins s σ H _ I h) ?_) hs rfl))
  rintro us s1 ⟨vs, H1, I1, r1, a, ys, rfl, hq, q⟩
  obtain ⟨u, rfl⟩ : ∃ u, us = [u] := by
    cases r1 with
    | cons r rr => cases rr; exact ⟨_, rfl⟩
  obtain rfl : u = Value.ref a := by
    cases r1 with
    | cons r rr => exact r
  obtain ⟨its, rv, tp, -⟩ := I1.tuple hq
  refine begin1 (show s1.heap.IsTuple a its.toArray from tp) ?_
  intro h' he hit hk
  refine wpAny_pyIter_enum he ?_
  have I2 : Inv X pins σ H1 { s1 with heap := h' } := I1.kept (t' := s1.toks) hk
  refine ⟨s1.heap.objs.size + 1, [s1.heap.objs.size + 1, s1.heap.objs.size], _, _, H1, rfl, I2, turnT a _ _, ⟨⟨.none, he⟩, hit, Nat.succ_ne_self _⟩, ?_, q⟩
  intro b hb
  have hle : s1.heap.objs.size ≤ b := by
    rcases List.mem_cons.mp hb with z | z
    · rw [z]; exact Nat.le_succ _
    · rw [List.mem_singleton.mp z]; exact Nat.le_refl _
  exact I1.fpOk hle (I1.hok.fresh hle)
/-- the loop over it -/
theorem for_enT {K : PySem.W.Frag} {a : Addr} {xs : List V} {g : TG} {tb : TS} {D : Ends} {σ : L2.St} {H : Hp} (Pv : Nat → L2.St → Hp → Prop) (h0 : Pv 0 σ H) (hl : ∀ i σ H, i ≤ xs.length → Pv i σ H → SqT K H a xs)
    (hs : ∀ i x T σ H, xs[i]? = some x → Pv i σ H → H T = none → g (.ref T) σ (upd H T (.tup [.int (i : Nat), x])) fun σ1 H1 => tb { D with nx := Pv (i + 1), ct := Pv (i + 1), bk := D.nx } σ1 H1)
    (hd : ∀ σ H, Pv xs.length σ H → D.nx σ H) :
    ∃ W : Nat → Nat → L2.St → Hp → Prop, (∃ m, W 0 m σ H) ∧ ∀ i m σ H, W i m σ H →
      ((ItT K a).stop i H ∧ D.nx σ H) ∨ ((ItT K a).go i H ∧ ∃ N : L2.St → Hp → Prop, (∀ σ' H', N σ' H' → ∃ m', m' < m ∧ W (i + 1) m' σ' H') ∧ ∀ x H', (ItT K a).yld i H x H' → g x σ H' fun σ2 H2 => tb { D with nx := N, ct := N, bk := D.nx } σ2 H2) := by
  refine ⟨fun i m σ H => m + i = xs.length ∧ Pv i σ H, ⟨xs.length, rfl, h0⟩, ?_⟩
  intro i m σ H
  rintro ⟨em, pv⟩
  have q := hl i σ H (by omega) pv
  rcases Nat.lt_or_ge i xs.length with lt | ge
  · right
    refine ⟨⟨xs, _, q, List.getElem?_eq_getElem lt⟩, Pv (i + 1), fun σ1 H1 p1 => ⟨m - 1, by omega, by omega, p1⟩, ?_⟩
    rintro x H1 ⟨T, y, rfl, fT, rfl, hy⟩
    exact hs i y T σ H (hy xs q) pv fT
  · left
    have ei : i = xs.length := by omega
    subst ei
    exact ⟨⟨xs, q, Nat.le_refl _⟩, hd σ H pv⟩
end EnT
namespace WS
open PySem PySem.Spec PyProof.Rows L2
/-- a def of the module: what it promises, where it stands -/
structure DefK (P : Program) (w : World) (K : PySem.W.Frag) (mg : Str → Option Value) (base : Heap) (CX : CXT) (k : Nat) (x : Str) (ps : List Str) (sp : Sp) : Prop where
  ex : ∃ f fd, FnOk P w K mg base CX k f fd ps sp ∧ mg x = some (.ref f) ∧ PySem.W.keepIn K (.ref f) = true ∧ Binds K fd ps []
theorem DefK.imp {P : Program} {w : World} {K : PySem.W.Frag} {mg : Str → Option Value} {base : Heap} {CX : CXT} {k : Nat} {x : Str} {ps : List Str} {sp sp' : Sp} (G : DefK P w K mg base CX k x ps sp)
    (h : ∀ vs H Q E, sp' vs H Q E → sp vs H Q E) : DefK P w K mg base CX k x ps sp' := by
  obtain ⟨f, fd, a, b, c, d⟩ := G.ex
  exact ⟨f, fd, a.imp h, b, c, d⟩
theorem DefK.mono {P : Program} {w : World} {K : PySem.W.Frag} {mg : Str → Option Value} {base : Heap} {CX : CXT} {k k' : Nat} {x : Str} {ps : List Str} {sp : Sp} (G : DefK P w K mg base CX k x ps sp) (h : k ≤ k') : DefK P w K mg base CX k' x ps sp := by
  obtain ⟨f, fd, a, b, c, d⟩ := G.ex
  exact ⟨f, fd, a.mono h, b, c, d⟩
section
variable {X : Cx} {k : Nat} {x : Str} {ps : List Str} {sp : Sp} {p pos : Pos} {e : Expr} {es : List Expr} {t : TA} {ta : TE}
theorem pe_def (G : DefK X.prog X.w X.K X.mg X.base CX0 k x ps sp) (hr : Room k X.A) (hg : Gl X x) (ha : PA X (e :: es) t) (hdb : (x == ("__debug__" : Str)) = false := by decide)
    (he : starEach (e :: es) X.env = (false, eval e X.env) :: starEach es X.env := by rfl) (hpl : (backTo pos (starEach es X.env)).any (·.1) = false := by rfl) :
    PE X (.Call (.Name x p) (e :: es) [] pos) (tCall sp [] E0 t) := by
  obtain ⟨f, fd, a, b, c, d⟩ := G.ex
  exact pe_call a hr hg b c d .nil pass0 ha hdb he hpl
/-- a statement, then the rest, behind a word of one's own -/
def tMid (t u : TS) : TS := fun D σ H => ∃ W : L2.St → Hp → Prop, t { D with nx := W } σ H ∧ ∀ σ1 H1, W σ1 H1 → u D σ1 H1
theorem pss_mid {st : Stmt} {more : List Stmt} {t u : TS} (h1 : PS X st t) (h2 : PSs X more u) : PSs X (st :: more) (tMid t u) := by
  constructor
  intro pins s σ H D I
  rintro ⟨W, a, b⟩
  refine wpAny_execs_cons (thn (h1.run pins s σ H { D with nx := W } I a) ?_)
  intro f s1 q
  cases f
  case next =>
    obtain ⟨σ1, H1, I1, z⟩ := q
    exact h2.run pins s1 σ1 H1 D I1 (b _ _ z)
  all_goals exact q
theorem pe_gI {i : Int} {tk : Tok} (hg : Gl X x) (hm : X.mg x = some (.int i tk)) (hd : (x == ("__debug__" : Str)) = false := by decide) : PE X (.Name x pos) (tC (.int i)) := pe_glob hg hm ⟨tk, rfl⟩ hd
theorem pe_gR {a : Addr} (hg : Gl X x) (hm : X.mg x = some (.ref a)) (hd : (x == ("__debug__" : Str)) = false := by decide) : PE X (.Name x pos) (tC (.ref a)) := pe_glob hg hm rfl hd
/-- a property of the class at C -/
structure PropK (P : Program) (w : World) (K : PySem.W.Frag) (mg : Str → Option Value) (base : Heap) (k : Nat) (C : Addr) (f : Str) (sp : Sp) : Prop where
  cl : Cls K C
  ex : ∃ pa g fd, PropOf K C f pa g ∧ FnOk P w K mg base CX0 k g fd ["self"] sp ∧ Binds K fd ["self"] []
theorem pe_propM {C : Addr} {f : Str} (G : PropK X.prog X.w X.K X.mg X.base k C f sp) (hr : Room (k + 1) X.A) (he : PE X e ta) (hab : attributeBase e f X.env (eval e X.env) = eval e X.env := by rfl) :
    PE X (.Attribute e f pos) (tProp C sp [] E0 ta) := by
  obtain ⟨pa, g, fd, a, b, c⟩ := G.ex
  exact pe_prop he G.cl a b hr c .nil pass0 hab
/-- an instance made -/
structure MkK (P : Program) (w : World) (K : PySem.W.Frag) (mg : Str → Option Value) (base : Heap) (CX : CXT) (k : Nat) (C : Addr) (x : Str) (ps : List Str) (sp : Sp) : Prop where
  gl : mg x = some (.ref C)
  ex : ∃ f fd, Mk K C f ∧ FnOk P w K mg base CX k f fd ps sp ∧ Binds K fd ps []
theorem pe_mkM {C : Addr} (G : MkK X.prog X.w X.K X.mg X.base CX0 k C x ps sp) (hr : Room (k + 1) X.A) (hg : Gl X x) (ha : PA X (e :: es) t) (hdb : (x == ("__debug__" : Str)) = false := by decide)
    (he : starEach (e :: es) X.env = (false, eval e X.env) :: starEach es X.env := by rfl) (hpl : (backTo pos (starEach es X.env)).any (·.1) = false := by rfl) :
    PE X (.Call (.Name x p) (e :: es) [] pos) (tMake C sp [] E0 t) := by
  obtain ⟨f, fd, a, b, c⟩ := G.ex
  exact pe_make a b hr hg G.gl c .nil pass0 ha hdb he hpl
/-- len of an instance -/
structure LenK (P : Program) (w : World) (K : PySem.W.Frag) (mg : Str → Option Value) (base : Heap) (k : Nat) (C : Addr) (sp : Sp) : Prop where
  ex : ∃ f fd, PySem.W.findIn K (.ref C) "__len__" = some (some (.ref f)) ∧ PySem.W.isFn K (.ref f) = true ∧ FnOk P w K mg base CX0 k f fd ["self"] sp ∧ Binds K fd ["self"] []
def rLenO (C : Addr) (sp : Sp) : List V → Hp → VK → Prop := fun xs H Q => ∃ a dx fs, xs = [.ref a] ∧ H a = some (.ins C dx fs) ∧ sp [.ref a] H (fun v H' => ∃ n : Nat, v = .int n ∧ n < 2 ^ 63 ∧ Q (.int n) H') E0
theorem call_lenO {C : Addr} (G : LenK X.prog X.w X.K X.mg X.base k C sp) (hr : Room (k + 1) X.A) : CallR X (.builtin "len") (rLenO C sp) := by
  intro pins s σ H xs us Q I r hh
  obtain ⟨a, dx, fs, rfl, ea, q⟩ := hh
  obtain ⟨u, rfl⟩ : ∃ u, us = [u] := by
    cases r with
    | cons r rr => cases rr; exact ⟨_, rfl⟩
  obtain rfl : u = Value.ref a := by
    cases r with
    | cons r rr => exact r
  obtain ⟨f, fd, h1, h2, h3, h4⟩ := G.ex
  obtain ⟨mA, O, _, _, _, _⟩ := ins_get I.hok ea
  obtain ⟨od, J, _⟩ := O.look
  obtain ⟨m, F⟩ := I.fr
  refine PySem.W.len_K F I.mod.kin J h1 h2 ?_
  have hl : ([Value.ref a] ++ ([] : List Value)).length = (["self"] : List Str).length := rfl
  refine wpAny_call (codeAny_mono (h3.run X.A.in1 X.stack s H ⟨[.ref a], []⟩ [.ref a] [.ref a] _ E0 hr.in1 I.env0.in1 (h4 s [.ref a] I.kIn hl) (.cons rfl .nil) q) fun r s' hq => ?_)
  cases r with
  | error er => exact False.elim hq
  | ok fl =>
    cases fl with
    | ret u =>
      obtain ⟨v, H', I3, rv, n, rfl, hn, q3⟩ := I.after hq
      obtain ⟨t, rfl⟩ := rv
      refine ⟨⟨Int.natCast_nonneg n, by omega⟩, .int n, H', I3.tok _, ⟨_, rfl⟩, q3⟩
    | next => exact False.elim hq
    | brk => exact False.elim hq
    | cont => exact False.elim hq
theorem pe_lenO {C : Addr} (G : LenK X.prog X.w X.K X.mg X.base k C sp) (hr : Room (k + 1) X.A) (hg : Gl X "len") (hm : X.mg "len" = none) (he : PE X e ta)
    (hst : starEach [e] X.env = [(false, eval e X.env)] := by rfl) : PE X (.Call (.Name "len" p) [e] [] pos) (tCB (rLenO C sp) (tCons ta tNil)) :=
  pe_callB (call_lenO G hr) hg hm boot_len (pa_cons he pa_nil hst) (by decide) (by decide) hst (by rfl)
end
/-- the built-ins' names that the program has not taken for itself -/
structure Blt (mg : Str → Option Value) : Prop where
  n_set : mg "set" = none
  n_len : mg "len" = none
  n_isinstance : mg "isinstance" = none
  n_int : mg "int" = none
  n_bool : mg "bool" = none
  n_tuple : mg "tuple" = none
  n_list : mg "list" = none
  n_str : mg "str" = none
  n_range : mg "range" = none
  n_enumerate : mg "enumerate" = none
  n_max : mg "max" = none
  n_min : mg "min" = none
  n_all : mg "all" = none
  n_any : mg "any" = none
  n_sorted : mg "sorted" = none
  n_sum : mg "sum" = none
  n_zip : mg "zip" = none
/-! ### values of any kind, and their types -/
inductive AnyV (K : PySem.W.Frag) (H : Hp) : V → String → Prop where
  | non : AnyV K H .non "NoneType"
  | bl (b : Bool) : AnyV K H (.bl b) "bool"
  | int (i : Int) : AnyV K H (.int i) "int"
  | str (x : Str) : AnyV K H (.str x) "str"
  | lst {a : Addr} {xs : List V} (h : SqL K H a xs) : AnyV K H (.ref a) "list"
  | tup {a : Addr} {xs : List V} (h : SqT K H a xs) : AnyV K H (.ref a) "tuple"
  | dct {a : Addr} {kvs : List (Key × V)} (h : H a = some (.dK kvs)) : AnyV K H (.ref a) "dict"
theorem AnyV.ty {K : PySem.W.Frag} {H : Hp} {v : V} {t : String} (x : AnyV K H v t) : TyX K H v (.type t) := by
  cases x with
  | non => exact .base .non
  | bl b => exact .base (.bl b)
  | int i => exact .base (.int i)
  | str z => exact .base (.str z)
  | lst h =>
    rcases h with (h | ⟨o, h⟩) | ⟨o, its, n, h1, h2, _⟩
    · exact .base (.lst h)
    · exact .base (.frz h)
    · exact .kList h1 h2
  | tup h =>
    rcases h with (h | ⟨o, h⟩) | ⟨o, its, n, h1, h2, _⟩
    · exact .base (.tup h)
    · exact .fTuple h
    · exact .kTuple h1 h2
  | dct h => exact .base (.dK h)
theorem seqT {K : PySem.W.Frag} {H H' : Hp} {a : Addr} {xs : List V} (s : Same H H') (h : SqT K H a xs) : SqT K H' a xs := by
  rcases h with (h | ⟨o, h⟩) | h
  · exact .inl (.inl (s _ _ h))
  · exact .inl (.inr ⟨o, s _ _ h⟩)
  · exact .inr h
theorem AnyV.same {K : PySem.W.Frag} {H H' : Hp} {v : V} {t : String} (x : AnyV K H v t) (s : Same H H') : AnyV K H' v t := by
  cases x with
  | non => exact .non
  | bl b => exact .bl b
  | int i => exact .int i
  | str z => exact .str z
  | lst h => exact .lst (s.seq h)
  | tup h => exact .tup (seqT s h)
  | dct h => exact .dct (s _ _ h)
theorem same_new {H : Hp} {p : Addr} (h : H p = none) (o : HO) : Same H (upd H p o) := fun b u q => by rw [upd_ne (ne_of_none q h)]; exact q
/-- isinstance of such a value: its answer by the types' names -/
theorem kit_any {K : PySem.W.Frag} {t c : String} {b : Bool} (h : kitB t c = some b) : PySem.W.kitOne K (.type t) (.type c) = some b := kit_ty h
/-! ### the rules that speak of the written part, by its name -/
def rLenS (K : PySem.W.Frag) : List V → Hp → VK → Prop := fun xs H Q => ∃ p ys, xs = [.ref p] ∧ (SqL K H p ys ∨ SqT K H p ys) ∧ Q (.int ys.length) H
def rListOf (K : PySem.W.Frag) : List V → Hp → VK → Prop := fun xs H Q => ∃ p ys, xs = [.ref p] ∧ (SqL K H p ys ∨ SqT K H p ys) ∧ ∀ l, H l = none → Q (.ref l) (upd H l (.lst ys))
def rTupOf (K : PySem.W.Frag) : List V → Hp → VK → Prop := fun xs H Q => ∃ p ys, xs = [.ref p] ∧ ((SqL K H p ys ∧ ∀ l, H l = none → Q (.ref l) (upd H l (.tup ys))) ∨ (SqT K H p ys ∧ Q (.ref p) H))
def rInt1 : List V → Hp → VK → Prop := fun xs H Q => (∃ i, xs = [V.int i] ∧ Q (V.int i) H) ∨ ∃ k, xs = [V.bl k] ∧ Q (V.int (if k = true then 1 else 0)) H
section
variable {X : Cx} (K : PySem.W.Frag)
theorem k_len (e : X.K = K := by rfl) : CallR X (.builtin "len") (rLenS K) := by subst e; exact call_len_seq
theorem k_listOf (e : X.K = K := by rfl) : CallR X (.type "list") (rListOf K) := by subst e; exact call_list_of
theorem k_tupOf (e : X.K = K := by rfl) : CallR X (.type "tuple") (rTupOf K) := by subst e; exact call_tuple_of
theorem k_int1 : CallR X (.type "int") rInt1 := call_int1
theorem k_isi (e : X.K = K := by rfl) : CallR X (.builtin "isinstance") (rIsi K) := by subst e; exact call_isi
theorem k_isiT (e : X.K = K := by rfl) : CallR X (.builtin "isinstance") (rIsiT K) := by subst e; exact call_isiT
theorem k_ixL (e : X.K = K := by rfl) : IxR X (rIxL K) := by subst e; exact ix_list
theorem k_ixT (e : X.K = K := by rfl) : IxR X (rIxT K) := by subst e; exact ix_tup
theorem k_ixQ (e : X.K = K := by rfl) : IxR X (rIx K) := by subst e; exact ix_seq
theorem k_slL (e : X.K = K := by rfl) : SlR X (rSlL K) := by subst e; exact sl_list
theorem k_slT (e : X.K = K := by rfl) : SlR X (rSlA K) := by subst e; exact sl_tupA
theorem k_catT (e : X.K = K := by rfl) : OpR X (binaryOp .Add) (rCatA K) := by subst e; exact op_catA
theorem k_eqD (hu : X.A.units + 64 < cLine) (e : X.K = K := by rfl) : OpR X (compareOp .Eq) (rEqD K) := by subst e; exact op_eqD hu
theorem k_neD (hu : X.A.units + 64 < cLine) (e : X.K = K := by rfl) : OpR X (compareOp .NotEq) (rNeD K) := by subst e; exact op_neD hu
theorem k_in (e : X.K = K := by rfl) : OpR X (compareOp .In) (rIn K false) := by subst e; exact op_in_seq
theorem k_notIn (e : X.K = K := by rfl) : OpR X (compareOp .NotIn) (rIn K true) := by subst e; exact op_notIn_seq
theorem k_all (hc : X.calm = true) (e : X.K = K := by rfl) : CallR X (.builtin "all") (rAll K) := by subst e; exact cr_all hc
theorem k_any (hc : X.calm = true) (e : X.K = K := by rfl) : CallR X (.builtin "any") (rAny K) := by subst e; exact cr_any hc
theorem k_sum (hc : X.calm = true) (e : X.K = K := by rfl) : CallR X (.builtin "sum") (rSum K) := by subst e; exact cr_sum hc
theorem k_max (hc : X.calm = true) (e : X.K = K := by rfl) : CallR X (.builtin "max") (rMax K) := by subst e; exact cr_max hc
theorem k_min (hc : X.calm = true) (e : X.K = K := by rfl) : CallR X (.builtin "min") (rMin K) := by subst e; exact cr_min hc
variable {tg l : Expr} {tl : TE}
theorem k_pil (hl : PE X l tl) (e : X.K = K := by rfl) : PI X tg l (iList K tl) := by subst e; exact pi_list hl
theorem k_pit (hl : PE X l tl) (e : X.K = K := by rfl) : PI X tg l (iTup K tl) := by subst e; exact pi_tup hl
theorem k_tgs {es : List Expr} {k : Nat} {t : TGs} {n : Nat} {pos : Pos} (hc : X.calm = true) (h : PGs X es t) (hn : (assignEach es X.env).length = n := by rfl) (hst : (assignEach es X.env).findIdx? (·.1) = none := by rfl) (e : X.K = K := by rfl) :
    PG X (.Tuple es k pos) (gTup K n t) := by subst e; exact pg_tup hc h hn hst
end
end WS
namespace WS
open PySem L2
/-! ### data -/
mutual
theorem dp_mono {K : PySem.W.Frag} {H H' : Hp} (hL : ∀ a xs, SqL K H a xs → SqL K H' a xs) (hT : ∀ a xs, SqT K H a xs → SqT K H' a xs) : ∀ {v : V} {d : PyData}, Dp K H v d → Dp K H' v d
  | _, _, .non => .non
  | _, _, .bl b => .bl b
  | _, _, .int i => .int i
  | _, _, .str x => .str x
  | _, _, .lst s a => .lst (hL _ _ s) (dps_mono hL hT a)
  | _, _, .tup s a => .tup (hT _ _ s) (dps_mono hL hT a)
theorem dps_mono {K : PySem.W.Frag} {H H' : Hp} (hL : ∀ a xs, SqL K H a xs → SqL K H' a xs) (hT : ∀ a xs, SqT K H a xs → SqT K H' a xs) : ∀ {vs : List V} {ds : List PyData}, DpAll K H vs ds → DpAll K H' vs ds
  | _, _, .nil => .nil
  | _, _, .cons h t => .cons (dp_mono hL hT h) (dps_mono hL hT t)
end
theorem dp_same {K : PySem.W.Frag} {H H' : Hp} (s : Same H H') {v : V} {d : PyData} (h : Dp K H v d) : Dp K H' v d := dp_mono (fun _ _ x => s.seq x) (fun _ _ x => seqT s x) h
theorem dps_same {K : PySem.W.Frag} {H H' : Hp} (s : Same H H') {vs : List V} {ds : List PyData} (h : DpAll K H vs ds) : DpAll K H' vs ds := dps_mono (fun _ _ x => s.seq x) (fun _ _ x => seqT s x) h
mutual
/-- no lists within -/
def noL : PyData → Bool
  | .list _ => false
  | .dict _ => false
  | .tuple ds => noLs ds
  | _ => true
def noLs : List PyData → Bool
  | [] => true
  | d :: ds => noL d && noLs ds
end
mutual
theorem dp_monoT {K : PySem.W.Frag} {H H' : Hp} (hT : ∀ a xs, SqT K H a xs → SqT K H' a xs) : ∀ {v : V} {d : PyData}, Dp K H v d → noL d = true → Dp K H' v d
  | _, _, .non, _ => .non
  | _, _, .bl b, _ => .bl b
  | _, _, .int i, _ => .int i
  | _, _, .str x, _ => .str x
  | _, _, .lst s a, n => by simp [noL] at n
  | _, _, .tup s a, n => .tup (hT _ _ s) (dps_monoT hT a (by simpa [noL] using n))
theorem dps_monoT {K : PySem.W.Frag} {H H' : Hp} (hT : ∀ a xs, SqT K H a xs → SqT K H' a xs) : ∀ {vs : List V} {ds : List PyData}, DpAll K H vs ds → noLs ds = true → DpAll K H' vs ds
  | _, _, .nil, _ => .nil
  | _, _, .cons h t, n => by
    exact .cons (dp_monoT hT h (by simp [noLs] at n; exact n.1)) (dps_monoT hT t (by simp [noLs] at n; exact n.2))
end
theorem noLs_of : ∀ {ds : List PyData}, (∀ d ∈ ds, noL d = true) → noLs ds = true
  | [], _ => rfl
  | d :: ds, h => by
    have e := noLs_of (ds := ds) fun x hx => h x (List.mem_cons_of_mem _ hx)
    simp [noLs, h d List.mem_cons_self, e]
theorem dp_tup {K : PySem.W.Frag} {H : Hp} {v : V} {ds : List PyData} (h : Dp K H v (.tuple ds)) : ∃ a xs, v = .ref a ∧ SqT K H a xs ∧ DpAll K H xs ds := by
  cases h with
  | tup s a => exact ⟨_, _, rfl, s, a⟩
theorem dp_lst {K : PySem.W.Frag} {H : Hp} {v : V} {ds : List PyData} (h : Dp K H v (.list ds)) : ∃ a xs, v = .ref a ∧ SqL K H a xs ∧ DpAll K H xs ds := by
  cases h with
  | lst s a => exact ⟨_, _, rfl, s, a⟩
theorem dp_non {K : PySem.W.Frag} {H : Hp} {v : V} (h : Dp K H v .none) : v = .non := by
  cases h
  rfl
theorem dp_int {K : PySem.W.Frag} {H : Hp} {v : V} {i : Int} (h : Dp K H v (.int i)) : v = .int i := by
  cases h
  rfl
theorem dps_len {K : PySem.W.Frag} {H : Hp} : ∀ {vs : List V} {ds : List PyData}, DpAll K H vs ds → vs.length = ds.length
  | _, _, .nil => rfl
  | _, _, .cons _ t => congrArg (· + 1) (dps_len t)
theorem dps_get {K : PySem.W.Frag} {H : Hp} : ∀ {vs : List V} {ds : List PyData} {i : Nat} {d : PyData}, DpAll K H vs ds → ds[i]? = some d → ∃ x, vs[i]? = some x ∧ Dp K H x d
  | _, _, _, _, .nil, e => by simp at e
  | _, _, 0, _, .cons h _, e => by
    have e' : _ = _ := Option.some.inj e
    subst e'
    exact ⟨_, rfl, h⟩
  | _, _, i + 1, d, .cons _ t, e => dps_get (i := i) t (by simpa using e)
theorem dps_getV {K : PySem.W.Frag} {H : Hp} : ∀ {vs : List V} {ds : List PyData} {i : Nat} {x : V}, DpAll K H vs ds → vs[i]? = some x → ∃ d, ds[i]? = some d ∧ Dp K H x d
  | _, _, _, _, .nil, e => by simp at e
  | _, _, 0, _, .cons h _, e => by
    have e' : _ = _ := Option.some.inj e
    subst e'
    exact ⟨_, rfl, h⟩
  | _, _, i + 1, d, .cons _ t, e => dps_getV (i := i) t (by simpa using e)
theorem dps_snoc {K : PySem.W.Frag} {H : Hp} : ∀ {vs : List V} {ds : List PyData} {x : V} {d : PyData}, DpAll K H vs ds → Dp K H x d → DpAll K H (vs ++ [x]) (ds ++ [d])
  | _, _, _, _, .nil, h => .cons h .nil
  | _, _, _, _, .cons h t, h' => .cons h (dps_snoc t h')
theorem dps_ints {K : PySem.W.Frag} {H : Hp} : ∀ (ns : List Int), DpAll K H (ns.map V.int) (ns.map PyData.int)
  | [] => .nil
  | n :: r => .cons (.int n) (dps_ints r)
theorem dps_intsV {K : PySem.W.Frag} {H : Hp} : ∀ {ns : List Int} {vs : List V}, DpAll K H vs (ns.map PyData.int) → vs = ns.map V.int
  | [], _, h => by cases h; rfl
  | n :: r, _, h => by
    cases h with
    | cons h1 h2 => rw [dp_int h1, dps_intsV h2]; rfl
theorem dp_any {K : PySem.W.Frag} {H : Hp} {v : V} {d : PyData} (h : Dp K H v d) : ∃ t, AnyV K H v t := by
  cases h with
  | non => exact ⟨_, .non⟩
  | bl b => exact ⟨_, .bl b⟩
  | int i => exact ⟨_, .int i⟩
  | str x => exact ⟨_, .str x⟩
  | lst s _ => exact ⟨_, .lst s⟩
  | tup s _ => exact ⟨_, .tup s⟩
/-! ### tables -/
/-- a step: where it leads and what it writes -/
abbrev Stp := Option (Nat × Nat)
abbrev Tab := List (List Stp)
def stepD : Stp → PyData
  | none => .none
  | some (n, w) => .tuple [.int (n : Nat), .int (w : Nat)]
def rowD (r : List Stp) : PyData := .tuple (r.map stepD)
def tabD (t : Tab) : PyData := .tuple (t.map rowD)
structure Good (t : Tab) (m : Nat) : Prop where
  lo : 1 ≤ t.length
  hi : t.length ≤ 6
  lets : m = 2 ∨ m = 3
  rows : ∀ r ∈ t, r.length = m
  steps : ∀ r ∈ t, ∀ n w, some (n, w) ∈ r → n < t.length ∧ w < 4
theorem noL_step (s : Stp) : noL (stepD s) = true := by
  cases s with
  | none => rfl
  | some p => obtain ⟨n, w⟩ := p; rfl
theorem noL_row (r : List Stp) : noL (rowD r) = true := by
  unfold rowD
  show noLs (r.map stepD) = true
  refine noLs_of fun d hd => ?_
  obtain ⟨s, _, rfl⟩ := List.mem_map.mp hd
  exact noL_step s
theorem noL_tab (t : Tab) : noL (tabD t) = true := by
  unfold tabD
  show noLs (t.map rowD) = true
  refine noLs_of fun d hd => ?_
  obtain ⟨s, _, rfl⟩ := List.mem_map.mp hd
  exact noL_row s
/-- a row of letters -/
def lettersD (r : List Nat) : PyData := .tuple (r.map fun (c : Nat) => PyData.int (c : Int))
theorem noL_letters (r : List Nat) : noL (lettersD r) = true := by
  unfold lettersD
  show noLs (r.map _) = true
  refine noLs_of fun d hd => ?_
  obtain ⟨s, _, rfl⟩ := List.mem_map.mp hd
  rfl
/-! ### the source of draws: the list h of a state, the list l of the cells, and an index -/
structure Src (H : Hp) (h l : Addr) : Prop where
  ne : h ≠ l
  ex : ∃ (st ix : Int) (cells : List Int), H h = some (.lst [.int st, .ref l, .int ix]) ∧ H l = some (.lst (cells.map V.int)) ∧ cells.length ≤ 63 ∧ 0 ≤ st ∧ st < 2147483647
/-- all that stood beside the source stands -/
def Keep (h l : Addr) (H H' : Hp) : Prop := ∀ b o, b ≠ h → b ≠ l → H b = some o → H' b = some o
theorem Keep.refl {h l : Addr} (H : Hp) : Keep h l H H := fun _ _ _ _ e => e
theorem Keep.trans {h l : Addr} {H H1 H2 : Hp} (a : Keep h l H H1) (b : Keep h l H1 H2) : Keep h l H H2 := fun c o n1 n2 e => b c o n1 n2 (a c o n1 n2 e)
theorem Keep.of {h l : Addr} {H H' : Hp} (s : Same H H') : Keep h l H H' := fun c o _ _ e => s c o e
theorem Src.same {H H' : Hp} {h l : Addr} (s : Src H h l) (e : Same H H') : Src H' h l := by
  obtain ⟨ne, st, ix, cs, a, b, c⟩ := s
  exact ⟨ne, st, ix, cs, e _ _ a, e _ _ b, c⟩
theorem Src.neT {H : Hp} {h l a : Addr} {xs : List V} (s : Src H h l) (e : Rd H a (.tup xs)) : a ≠ h ∧ a ≠ l := by
  obtain ⟨ne, st, ix, cs, e1, e2, _⟩ := s
  rcases e with e | ⟨o, e⟩
  · exact ⟨ne_of e e1 (by intro z; cases z), ne_of e e2 (by intro z; cases z)⟩
  · exact ⟨ne_of e e1 (by intro z; cases z), ne_of e e2 (by intro z; cases z)⟩
theorem Src.keepT {K : PySem.W.Frag} {H H' : Hp} {h l a : Addr} {xs : List V} (s : Src H h l) (k : Keep h l H H') (e : SqT K H a xs) : SqT K H' a xs := by
  rcases e with e | e
  · obtain ⟨n1, n2⟩ := s.neT e
    rcases e with e | ⟨o, e⟩
    · exact .inl (.inl (k _ _ n1 n2 e))
    · exact .inl (.inr ⟨o, k _ _ n1 n2 e⟩)
  · exact .inr e
theorem Src.keepD {K : PySem.W.Frag} {H H' : Hp} {h l : Addr} {v : V} {d : PyData} (s : Src H h l) (k : Keep h l H H') (e : Dp K H v d) (n : noL d = true) : Dp K H' v d := dp_monoT (fun _ _ x => s.keepT k x) e n
theorem Src.keepDs {K : PySem.W.Frag} {H H' : Hp} {h l : Addr} {vs : List V} {ds : List PyData} (s : Src H h l) (k : Keep h l H H') (e : DpAll K H vs ds) (n : noLs ds = true) : DpAll K H' vs ds := dps_monoT (fun _ _ x => s.keepT k x) e n
/-- what was new beside the source -/
theorem Src.neN {H : Hp} {h l a : Addr} (s : Src H h l) (e : H a = none) : a ≠ h ∧ a ≠ l := by
  obtain ⟨ne, st, ix, cs, e1, e2, _⟩ := s
  exact ⟨(ne_of_none e1 e).symm, (ne_of_none e2 e).symm⟩
theorem ixN_in {n : Nat} {i : Int} (h0 : 0 ≤ i) (h1 : i < (n : Int)) : ixN n i = some i.toNat := by
  unfold ixN
  rw [if_pos h0, if_pos h1]
theorem atI_at {α : Type} {xs : List α} {i : Int} (h0 : 0 ≤ i) (h1 : i < (xs.length : Int)) : ∃ c, atI xs i = some c ∧ xs[i.toNat]? = some c ∧ c ∈ xs := by
  have hk : i.toNat < xs.length := by omega
  refine ⟨xs[i.toNat], ?_, List.getElem?_eq_getElem hk, List.getElem_mem hk⟩
  unfold atI
  rw [ixN_in h0 h1]
  exact List.getElem?_eq_getElem hk
theorem atI_int {ns : List Int} {i : Int} (h0 : 0 ≤ i) (h1 : i < (ns.length : Int)) : ∃ c, atI (ns.map V.int) i = some (.int c) ∧ c ∈ ns := by
  obtain ⟨x, e, _, m⟩ := atI_at (xs := ns.map V.int) h0 (by rw [List.length_map]; exact h1)
  obtain ⟨c, hc, rfl⟩ := List.mem_map.mp m
  exact ⟨c, e, hc⟩
theorem Src.upd {H : Hp} {h l a : Addr} {o : HO} (s : Src H h l) (n1 : a ≠ h) (n2 : a ≠ l) : Src (upd H a o) h l := by
  obtain ⟨ne, st, ix, cs, e1, e2, r⟩ := s
  exact ⟨ne, st, ix, cs, by rw [upd_ne n1.symm]; exact e1, by rw [upd_ne n2.symm]; exact e2, r⟩
theorem Keep.free {h l a : Addr} {H H' : Hp} (k : Keep h l H H') (n1 : a ≠ h) (n2 : a ≠ l) (e : H' a = none) : H a = none := by
  cases q : H a with
  | none => rfl
  | some o =>
    rw [k a o n1 n2 q] at e
    cases e
theorem Keep.upd {h l a : Addr} {H H' : Hp} {o : HO} (k : Keep h l H H') (e : H a = none) : Keep h l H (upd H' a o) := fun b u n1 n2 q => by
  rw [upd_ne (ne_of_none q e)]
  exact k b u n1 n2 q
/-- tuples stand where a list is written anew -/
theorem seqT_upd {K : PySem.W.Frag} {H : Hp} {p a : Addr} {zs xs : List V} {o : HO} (hp : H p = some (.lst zs)) (h : SqT K H a xs) : SqT K (upd H p o) a xs := by
  rcases h with (h | ⟨u, h⟩) | h
  · exact .inl (.inl (by rw [upd_ne (ne_of h hp (by intro z; cases z))]; exact h))
  · exact .inl (.inr ⟨u, by rw [upd_ne (ne_of h hp (by intro z; cases z))]; exact h⟩)
  · exact .inr h
theorem dp_upd {K : PySem.W.Frag} {H : Hp} {p : Addr} {zs : List V} {o : HO} (hp : H p = some (.lst zs)) {v : V} {d : PyData} (h : Dp K H v d) (n : noL d = true) : Dp K (upd H p o) v d := dp_monoT (fun _ _ x => seqT_upd hp x) h n
theorem dps_upd {K : PySem.W.Frag} {H : Hp} {p : Addr} {zs : List V} {o : HO} (hp : H p = some (.lst zs)) {v : List V} {d : List PyData} (h : DpAll K H v d) (n : noLs d = true) : DpAll K (upd H p o) v d := dps_monoT (fun _ _ x => seqT_upd hp x) h n
theorem noLs_map {α : Type} {f : α → PyData} (h : ∀ x, noL (f x) = true) (xs : List α) : noLs (xs.map f) = true := noLs_of fun d hd => by
  obtain ⟨x, _, rfl⟩ := List.mem_map.mp hd
  exact h x
theorem small1k {n : Nat} (h : n ≤ 1000) : n ≤ sizeLine := Nat.le_of_lt (small1000 h)
theorem catA_ok {K : PySem.W.Frag} {H : Hp} {a b : Addr} {xs ys : List V} {Q : VK} (ha : SqT K H a xs) (hb : SqT K H b ys) (hl : xs.length + ys.length ≤ sizeLine) (k : ∀ r H', Same H H' → SqT K H' r (xs ++ ys) → Q (.ref r) H') :
    rCatA K (.ref a) (.ref b) H Q := by
  refine ⟨a, b, xs, ys, rfl, rfl, ha, hb, hl, fun e => ?_, fun _ e => ?_, fun _ _ p hp => k p _ (same_new hp _) (SqT.of upd_same)⟩
  · subst e
    exact k b H (Same.refl H) hb
  · subst e
    exact k a H (Same.refl H) (by rw [List.append_nil]; exact ha)
theorem slA_ok {K : PySem.W.Frag} {H : Hp} {a : Addr} {xs : List V} {lo hi : Option Int} {Q : VK} (ha : SqT K H a xs) (hw : (HT.sIx xs.length 0 lo = 0 ∧ HT.sIx xs.length xs.length hi = xs.length) → cutV xs lo hi = xs)
    (k : ∀ r H', Same H H' → SqT K H' r (cutV xs lo hi) → Q (.ref r) H') : rSlA K (.ref a) lo hi H Q :=
  ⟨a, xs, rfl, ha, fun z => k a H (Same.refl H) (by rw [hw z]; exact ha), fun _ p hp => k p _ (same_new hp _) (SqT.of upd_same)⟩
theorem dp_at {K : PySem.W.Frag} {H : Hp} {v : V} {ds : List PyData} {i : Nat} {d : PyData} (h : Dp K H v (.tuple ds)) (e : ds[i]? = some d) : ∃ a xs x, v = .ref a ∧ SqT K H a xs ∧ xs.length = ds.length ∧ xs[i]? = some x ∧ atI xs (i : Int) = some x ∧ Dp K H x d := by
  obtain ⟨a, xs, rfl, s, al⟩ := dp_tup h
  obtain ⟨x, ex, dx⟩ := dps_get al e
  exact ⟨a, xs, x, rfl, s, dps_len al, ex, atI_nat ex, dx⟩
/-! ### where rows lead -/
def stepAt (t : Tab) (n c : Nat) : Stp := (t.getD n []).getD c none
def walkF (t : Tab) : Nat → List Nat → Option (Nat × List Nat)
  | n, [] => some (n, [])
  | n, c :: r => match stepAt t n c with
    | none => none
    | some (n', x) => (walkF t n' r).map fun p => (p.1, x :: p.2)
theorem walk_cons (t : Tab) (n c : Nat) (r : List Nat) : walkF t n (c :: r) = match stepAt t n c with
    | none => none
    | some (n', x) => (walkF t n' r).map fun p => (p.1, x :: p.2) := rfl
theorem walk_none (t : Tab) : ∀ (r s : List Nat) (n : Nat), walkF t n r = none → walkF t n (r ++ s) = none
  | [], s, n, h => by cases h
  | c :: r, s, n, h => by
    rw [List.cons_append, walk_cons]
    have h' := h
    rw [walk_cons] at h'
    cases e : stepAt t n c with
    | none => rfl
    | some p =>
      obtain ⟨n', x⟩ := p
      rw [e] at h'
      have q : walkF t n' r = none := by
        cases z : walkF t n' r with
        | none => rfl
        | some p => simp [z] at h'
      show (walkF t n' (r ++ s)).map _ = none
      rw [walk_none t r s n' q]
      rfl
theorem walk_some (t : Tab) : ∀ (r s : List Nat) (n m : Nat) (ws : List Nat), walkF t n r = some (m, ws) → walkF t n (r ++ s) = (walkF t m s).map fun p => (p.1, ws ++ p.2)
  | [], s, n, m, ws, h => by
    cases h
    show walkF t n s = _
    cases walkF t n s with
    | none => rfl
    | some p => rfl
  | c :: r, s, n, m, ws, h => by
    rw [List.cons_append, walk_cons]
    have h' := h
    rw [walk_cons] at h'
    cases e : stepAt t n c with
    | none => rw [e] at h'; cases h'
    | some p =>
      obtain ⟨n', x⟩ := p
      rw [e] at h'
      cases z : walkF t n' r with
      | none => simp [z] at h'
      | some p =>
        obtain ⟨m', ws'⟩ := p
        have q : m' = m ∧ x :: ws' = ws := by simpa [z] using h'
        obtain ⟨rfl, rfl⟩ := q
        show (walkF t n' (r ++ s)).map _ = _
        rw [walk_some t r s n' m' ws' z]
        cases walkF t m' s with
        | none => rfl
        | some p => rfl
theorem walk_one (t : Tab) (n c : Nat) : walkF t n [c] = (stepAt t n c).map fun p => (p.1, [p.2]) := by
  rw [walk_cons]
  cases stepAt t n c with
  | none => rfl
  | some p => rfl
theorem stepAt_good {t : Tab} {m : Nat} (g : Good t m) {n c n' x : Nat} (e : stepAt t n c = some (n', x)) : n' < t.length ∧ x < 4 := by
  unfold stepAt at e
  rw [List.getD_eq_getElem?_getD, List.getD_eq_getElem?_getD] at e
  cases z : t[n]? with
  | none => simp [z] at e
  | some r =>
    rw [z] at e
    have e' : r[c]?.getD none = some (n', x) := e
    cases y : r[c]? with
    | none => rw [y] at e'; cases e'
    | some s =>
      rw [y] at e'
      have e2 : s = some (n', x) := e'
      subst e2
      exact g.steps r (List.mem_of_getElem? z) n' x (List.mem_of_getElem? y)
theorem walk_good {t : Tab} {m : Nat} (g : Good t m) : ∀ (r : List Nat) (n k : Nat) (ws : List Nat), n < t.length → walkF t n r = some (k, ws) → k < t.length ∧ ws.length = r.length ∧ ∀ x ∈ ws, x < 4
  | [], n, k, ws, hn, h => by
    cases h
    exact ⟨hn, rfl, fun _ z => nomatch z⟩
  | c :: r, n, k, ws, hn, h => by
    have h' := h
    rw [walk_cons] at h'
    cases e : stepAt t n c with
    | none => rw [e] at h'; cases h'
    | some p =>
      obtain ⟨n', x⟩ := p
      rw [e] at h'
      cases z : walkF t n' r with
      | none => simp [z] at h'
      | some p =>
        obtain ⟨m', ws'⟩ := p
        have q : m' = k ∧ x :: ws' = ws := by simpa [z] using h'
        obtain ⟨rfl, rfl⟩ := q
        obtain ⟨a, b⟩ := stepAt_good g e
        obtain ⟨y1, y2, y3⟩ := walk_good g r n' m' ws' a z
        refine ⟨y1, congrArg (· + 1) y2, fun u hu => ?_⟩
        rcases List.mem_cons.mp hu with rfl | hu
        · exact b
        · exact y3 u hu
/-- a table's step, in the heap -/
theorem tab_at {K : PySem.W.Frag} {H : Hp} {v : V} {t : Tab} {m n c : Nat} (g : Good t m) (h : Dp K H v (tabD t)) (hn : n < t.length) (hc : c < m) :
    ∃ a xs b ys z, v = .ref a ∧ SqT K H a xs ∧ xs.length = t.length ∧ atI xs (n : Int) = some (.ref b) ∧ SqT K H b ys ∧ ys.length = m ∧ atI ys (c : Int) = some z ∧ Dp K H z (stepD (stepAt t n c)) := by
  obtain ⟨r, hr⟩ : ∃ r, t[n]? = some r := ⟨_, List.getElem?_eq_getElem hn⟩
  have hr' : (t.map rowD)[n]? = some (rowD r) := by rw [List.getElem?_map, hr]; rfl
  obtain ⟨a, xs, x, rfl, s, l1, _, e1, d1⟩ := dp_at h hr'
  have lr : r.length = m := g.rows r (List.mem_of_getElem? hr)
  obtain ⟨q, hq⟩ : ∃ q, r[c]? = some q := ⟨_, List.getElem?_eq_getElem (by omega)⟩
  have hq' : (r.map stepD)[c]? = some (stepD q) := by rw [List.getElem?_map, hq]; rfl
  obtain ⟨b, ys, z, rfl, s2, l2, _, e2, d2⟩ := dp_at d1 hq'
  refine ⟨a, xs, b, ys, z, rfl, s, by rw [l1, List.length_map], e1, s2, by rw [l2, List.length_map]; exact lr, e2, ?_⟩
  have : stepAt t n c = q := by
    simp [stepAt, List.getD_eq_getElem?_getD, hr, hq]
  rw [this]
  exact d2
/-- a step's parts, in the heap -/
theorem step_at {K : PySem.W.Frag} {H : Hp} {v : V} {n x : Nat} (h : Dp K H v (stepD (some (n, x)))) : ∃ a xs, v = .ref a ∧ SqT K H a xs ∧ atI xs 0 = some (.int n) ∧ atI xs 1 = some (.int x) ∧ xs.length = 2 := by
  obtain ⟨a, xs, rfl, s, al⟩ := dp_tup (show Dp K H v (.tuple [.int (n : Nat), .int (x : Nat)]) from h)
  have e : xs = [(n : Int), (x : Int)].map V.int := dps_intsV al
  subst e
  exact ⟨a, _, rfl, s, rfl, rfl, rfl⟩
def walkD : Option (Nat × List Nat) → PyData
  | none => .none
  | some (n, ws) => .tuple [.int (n : Nat), lettersD ws]
theorem take_more {α : Type} {l : List α} {i : Nat} {x : α} (h : l[i]? = some x) : l.take (i + 1) = l.take i ++ [x] := by
  rw [List.take_succ, h]
  rfl
/-! ### data that the law compares: to a depth -/
def okD : Nat → PyData → Bool
  | _, .none => true
  | _, .bool _ => true
  | _, .int _ => true
  | _, .str x => PyData.strOk x
  | n + 1, .list ds => decide (ds.length ≤ 1000000) && ds.all (okD n)
  | n + 1, .tuple ds => decide (ds.length ≤ 1000000) && ds.all (okD n)
  | _, _ => false
theorem okD_canAll {n : Nat} (ih : ∀ d : PyData, okD n d = true → d.canLay0 = true) : ∀ ds : List PyData, ds.all (okD n) = true → PyData.canLayAll0 ds = true
  | [], _ => rfl
  | d :: ds, h => by
    simp only [List.all_cons, Bool.and_eq_true] at h
    simp only [PyData.canLayAll0, Bool.and_eq_true]
    exact ⟨ih d h.1, okD_canAll ih ds h.2⟩
theorem okD_can : ∀ (n : Nat) (d : PyData), okD n d = true → d.canLay0 = true
  | _, .none, _ => rfl
  | _, .bool _, _ => rfl
  | _, .int _, _ => rfl
  | 0, .str x, h => h
  | n + 1, .str x, h => h
  | 0, .list ds, h => by simp [okD] at h
  | 0, .tuple ds, h => by simp [okD] at h
  | 0, .dict ds, h => by simp [okD] at h
  | n + 1, .dict ds, h => by simp [okD] at h
  | n + 1, .list ds, h => by
    simp only [okD, Bool.and_eq_true] at h
    exact okD_canAll (okD_can n) ds h.2
  | n + 1, .tuple ds, h => by
    simp only [okD, Bool.and_eq_true] at h
    exact okD_canAll (okD_can n) ds h.2
def tyD : PyData → String
  | .none => "NoneType"
  | .bool _ => "bool"
  | .int _ => "int"
  | .str _ => "str"
  | .list _ => "list"
  | .tuple _ => "tuple"
  | .dict _ => "dict"
theorem dp_ty {K : PySem.W.Frag} {H : Hp} {v : V} {d : PyData} (h : Dp K H v d) : AnyV K H v (tyD d) := by
  cases h with
  | non => exact .non
  | bl b => exact .bl b
  | int i => exact .int i
  | str x => exact .str x
  | lst s _ => exact .lst s
  | tup s _ => exact .tup s
theorem kit2 {K : PySem.W.Frag} {t c1 c2 : String} {b1 b2 : Bool} (h1 : kitB t c1 = some b1) (h2 : kitB t c2 = some b2) : PySem.W.kitAny K (.type t) [.type c1, .type c2] = some (b1 || b2) := by
  refine kitAny_cons (kit_ty h1) (fun e => ?_) (fun e => by rw [e]; rfl)
  subst e
  refine kitAny_cons (kit_ty h2) (fun e => ?_) (fun e => by rw [e]; rfl)
  subst e
  rfl
theorem ixQ_ok {K : PySem.W.Frag} {H : Hp} {a : Addr} {xs : List V} {i : Int} {v : V} {Q : VK} (h : SqL K H a xs ∨ SqT K H a xs) (e : atI xs i = some v) (q : Q v H) : rIx K (.ref a) (.int i) H Q :=
  h.elim (fun z => .inl ⟨a, xs, i, v, rfl, rfl, z, e, q⟩) fun z => .inr (.inl ⟨a, xs, i, v, rfl, rfl, z, e, q⟩)
theorem seqQ {K : PySem.W.Frag} {H H' : Hp} {a : Addr} {xs : List V} (s : Same H H') (h : SqL K H a xs ∨ SqT K H a xs) : SqL K H' a xs ∨ SqT K H' a xs := h.elim (fun z => .inl (s.seq z)) fun z => .inr (seqT s z)
/-! ### a machine in the heap -/
structure Txt (K : PySem.W.Frag) (C : Addr) : Prop where
  cl : Cls K C
  nT : NoAttr K C "_table"
def Mach (K : PySem.W.Frag) (C : Addr) (H : Hp) (x : Addr) (t : Tab) : Prop := ∃ dx v, H x = some (.ins C dx [("_table", v)]) ∧ Dp K H v (tabD t)
theorem Mach.same {K : PySem.W.Frag} {C : Addr} {H H' : Hp} {x : Addr} {t : Tab} (m : Mach K C H x t) (s : Same H H') : Mach K C H' x t := by
  obtain ⟨dx, v, e, d⟩ := m
  exact ⟨dx, v, s _ _ e, dp_same s d⟩
theorem Mach.keep {K : PySem.W.Frag} {C : Addr} {H H' : Hp} {x : Addr} {t : Tab} {h l : Addr} (m : Mach K C H x t) (s : Src H h l) (k : Keep h l H H') : Mach K C H' x t := by
  obtain ⟨dx, v, e, d⟩ := m
  obtain ⟨ne, st, ix, cs, e1, e2, _⟩ := id s
  exact ⟨dx, v, k _ _ (ne_of e e1 (by intro z; cases z)) (ne_of e e2 (by intro z; cases z)) e, s.keepD k d (noL_tab t)⟩
theorem tab_len {K : PySem.W.Frag} {H : Hp} {v : V} {t : Tab} (h : Dp K H v (tabD t)) : ∃ a xs, v = .ref a ∧ SqT K H a xs ∧ xs.length = t.length := by
  obtain ⟨a, xs, rfl, s, al⟩ := dp_tup (show Dp K H v (.tuple (t.map rowD)) from h)
  exact ⟨a, xs, rfl, s, by rw [dps_len al, List.length_map]⟩
/-- what a step, a row of a table are, of any data -/
def belowD (n : Int) : PyData → Bool
  | .int i => decide (0 ≤ i) && decide (i < n)
  | _ => false
def stepOk (n : Int) : PyData → Bool
  | .none => true
  | .tuple [a, b] => belowD n a && belowD 4 b
  | _ => false
def rowOk (n : Int) : PyData → Bool
  | .tuple ds => (decide (ds.length = 2) || decide (ds.length = 3)) && ds.all (stepOk n)
  | _ => false
theorem stepOk_good {n a x : Nat} (h1 : a < n) (h2 : x < 4) : stepOk (n : Int) (stepD (some (a, x))) = true := by
  have e1 : (a : Int) < (n : Int) := by omega
  have e2 : (x : Int) < 4 := by omega
  have e3 : (0 : Int) ≤ (a : Int) := by omega
  have e4 : (0 : Int) ≤ (x : Int) := by omega
  show ((decide (0 ≤ (a : Int)) && decide ((a : Int) < (n : Int))) && (decide (0 ≤ (x : Int)) && decide ((x : Int) < 4))) = true
  rw [decide_eq_true e1, decide_eq_true e2, decide_eq_true e3, decide_eq_true e4]
  rfl
theorem rowOk_good {t : Tab} {m : Nat} (g : Good t m) {r : List Stp} (hr : r ∈ t) : rowOk (t.length : Int) (rowD r) = true := by
  have lr := g.rows r hr
  show ((decide ((r.map stepD).length = 2) || decide ((r.map stepD).length = 3)) && (r.map stepD).all (stepOk (t.length : Int))) = true
  rw [Bool.and_eq_true, List.all_eq_true]
  refine ⟨?_, fun d hd => ?_⟩
  · rw [List.length_map, lr]
    rcases g.lets with e | e <;> rw [e] <;> rfl
  · obtain ⟨s, hs, rfl⟩ := List.mem_map.mp hd
    cases s with
    | none => rfl
    | some p =>
      obtain ⟨a, x⟩ := p
      obtain ⟨h1, h2⟩ := g.steps r hr a x hs
      exact stepOk_good h1 h2
theorem len_two {α : Type} : ∀ {xs : List α}, xs.length = 2 → ∃ a b, xs = [a, b]
  | [a, b], _ => ⟨a, b, rfl⟩
  | [], h => by cases h
  | [_], h => by cases h
  | _ :: _ :: _ :: _, h => by simp at h
theorem stepOk_long {n : Int} : ∀ {ds : List PyData}, ds.length ≠ 2 → stepOk n (.tuple ds) = false
  | [], _ => rfl
  | [_], _ => rfl
  | [_, _], h => absurd rfl h
  | _ :: _ :: _ :: _, _ => rfl
theorem stepOk_two {n : Int} {a b : PyData} : stepOk n (.tuple [a, b]) = (belowD n a && belowD 4 b) := rfl
end WS
namespace PySem
namespace BadX
open PySem.W PySem.Calls PyProof.Rows PySem.HandSPX
def bA (p1 p2 : Pos) : Arguments := { posonlyargs := [], args := [{ arg := "self", annotation := none, pos := p1 }, { arg := "index", annotation := none, pos := p2 }], vararg := none, kwonlyargs := [], kw_defaults := [], kwarg := none, defaults := [] }
def bB (pre : Str) (ln c1 c2 c3 l2 c4 : Nat) (p1 p2 p4 p5 p6 p7 p9 p10 p11 p12 p13 : Pos) : List Stmt :=
  [.Expr (.Call (.Attribute (.Call (.Name "super" p1) [] [] p2) "__init__" ⟨ln, c1, ln, c2⟩) [.JoinedStr [.Constant (.str pre) 0 p4, .FormattedValue (.Name "index" p5) (-1) none p6] p7] [] ⟨ln, c3, l2, c4⟩) p9,
   .Assign [.Attribute (.Name "self" p10) "index" p11] (.Name "index" p12) p13]
def bS : Scope := { kind := .function, names := [(PySem.Str.ofString "self", .local), (PySem.Str.ofString "index", .local), (PySem.Str.ofString "__class__", .free), (PySem.Str.ofString "super", .globalImplicit)], isGenerator := false, isCoroutine := false, more := [] }
/-- what the written part says of the class cn, at C, of its __init__, at fI, of the cell of its class, at cc -/
structure BadTxt (P : Program) (K : Frag) (mg : Str → Option Value) (cn qn : Str) (C fI : Addr) : Prop where
  gC : mg cn = some (.ref C)
  cls : ∃ nm q N bs bm sn sub ab col dd k0 k1 k2 k3 k5, K.lookup C = some (excClassObj nm q C N bs bm true sn sub ab col dd k0 k1 k2 k3 k5 "ValueError.__new__") ∧ refsVE bm = true ∧ alongIn K "__init__" bm = some (some (.builtin "ValueError.__init__"))
  sa : findIn K (.ref C) "__setattr__" = some (some (.builtin "object.__setattr__"))
  ga : findIn K (.ref C) "__getattribute__" = some (some (.builtin "BaseException.__getattribute__"))
  gg : findIn K (.ref C) "__getattr__" = some none
  noN : findIn K (.ref C) "index" = some none
  iC : findIn K (.ref C) "__init__" = some (some (.ref fI))
  tC : typeIn K (.ref fI) = some (.type "function")
  kC : keepIn K (.ref C) = true
  exC : subIn K (.ref C) (.type "BaseException") = some true
  tyC : typeIn K (.ref C) = some (.type "type")
  hdC : hasDictIn K C = true
  te : exmOne K (.ref C) (.ref C) = some true
  noS : mg "super" = none
  top : (P.main.scope.names.lookup ("super" : Str)).isSome = false
  opq : nsIn K cStatics "thirdparty.any" = some none
  fn : ∃ (oc : Value) (od : Option Addr) (doc pm : Value) (an : Option Addr) (ct : Value) (osl : Array (Option Value)) (cda cc : Addr) (pre : Str) (ln c1 c2 c3 l2 c4 : Nat) (p1 p2 q1 q2 q4 q5 q6 q7 q9 q10 q11 q12 q13 : Pos),
    K.lookup fI = some ⟨oc, od, .func (ksFn "__init__" qn (bA p1 p2) (bB pre ln c1 c2 c3 l2 c4 q1 q2 q4 q5 q6 q7 q9 q10 q11 q12 q13) bS .none .none doc pm an (.ref cda) ct cc), osl⟩ ∧ codeIn K (.ref cda) qn = true ∧
    (∃ ccl cdd vs ccs file tf, K.lookup cda = some ⟨ccl, cdd, .fields vs, ccs⟩ ∧ vs[2]? = some (.str file tf) ∧ ((P.main.file : Str) == file) = true) ∧
    (∃ cl cld csl, K.lookup cc = some ⟨cl, cld, .cell (some (.ref C)), csl⟩) ∧
    (Str.empty ++ pre).length ≤ sizeLine ∧ (Str.empty ++ pre ++ (("None" : Str))).length ≤ sizeLine ∧ ∀ i : Nat, i < 64 → (Str.empty ++ pre ++ (Str.ofString (toString (i : Int)))).length ≤ sizeLine
theorem eval_meth {o : Expr} {name : Str} {apos pos : Pos} {args : List Expr} {env : Env} (hline : (apos.endLine == pos.line) = true) (hform : methodCallForm (args.length + ([] : List Keyword).length) (backTo pos (starEach args env)) (backToKw pos (keywordEach [] env)) = true) :
    eval (.Call (.Attribute o name apos) args [] pos) env = (do
      let ov ← attributeBase o name env (eval o env)
      standAt apos.atName
      let (f, first) ← holding [ov] (getMethod ov name (do return (← importBound o env).getD true))
      callWith pos f first (backTo pos (starEach args env)) []) := by
  have hpos : methodCallPos true o env apos pos = pure pos := by unfold methodCallPos; simp [hline]
  show (do let ov ← attributeBase o name env (eval o env); standAt apos.atName; methodCall o name apos pos env ov (args.length + ([] : List Keyword).length) (backTo pos (starEach args env)) (backToKw pos (keywordEach [] env))) = _
  unfold methodCall
  simp only [hform, hpos, calleeOf, if_true, pure_bind]
  rfl
theorem along_of {K : Frag} {nm q : Str} {C N : Addr} {bs bm : List Value} {hdct : Bool} {sn : List Str} {sub : List Value} {ab : Bool} {col : Option Bool} {dd : Option Addr} {k0 k1 k2 k3 k5 : Option Value} {new : String} {r : Option (Option Value)}
    (xL : K.lookup C = some (excClassObj nm q C N bs bm hdct sn sub ab col dd k0 k1 k2 k3 k5 new)) (al : ks_superIn K C C "__init__" = r) : alongIn K "__init__" bm = r := by
  have hcl : clsIn K C = some { name := nm, bases := bs, mro := .ref C :: bm, ns := N, qualname := q, hasDict := hdct, slotNames := sn, subclasses := sub, abstract := ab, collection := col, hasDel := false } := by unfold clsIn; rw [xL] <;> rfl
  rw [← al]
  unfold ks_superIn
  rw [hcl]
  show _ = alongIn K "__init__" (((Value.ref C :: bm).dropWhile (· != .ref C)).drop 1)
  rw [show ((Value.ref C :: bm).dropWhile (· != .ref C)).drop 1 = bm by simp [List.dropWhile_cons]]
/-- an error of the class at S is what «except S» names -/
theorem exm_self {K : Frag} {S : Addr} (h1 : subIn K (.ref S) (.type "BaseException") = some true) (h2 : isClsIn K S = true) (h3 : typeIn K (.ref S) = some (.type "type")) (h4 : subIn K (.ref S) (.ref S) = some true) : exmOne K (.ref S) (.ref S) = some true := by
  have e1 : (subIn K (.ref S) (.type "BaseException") == some true) = true := by rw [h1] <;> rfl
  have e2 : ((clsIn K S).isSome && typeIn K (.ref S) == some (.type "type")) = true := by
    have h2' : (clsIn K S).isSome = true := h2
    rw [h2', h3] <;> rfl
  show (if (subIn K (.ref S) (.type "BaseException") == some true) = true then (if ((clsIn K S).isSome && typeIn K (.ref S) == some (.type "type")) = true then subIn K (.ref S) (.ref S) else none) else none) = some true
  rw [if_pos e1, if_pos e2]
  exact h4
/-- what stands as an index -/
def IdxV (v : Value) : Prop := v = .none ∨ ∃ (i : Nat) (t : Tok), i < 64 ∧ v = .int i t
theorem kept_but {K : Frag} {h h' : Heap} {x : Addr} (X : K.In h) (hx : K.lookup x = none) (k : ∀ b o, b ≠ x → h.get? b = some o → h'.get? b = some o) : K.In h' := fun a o e =>
  k a o (fun z => by rw [z, hx] at e; cases e) (X a o e)
theorem one_size (v : Value) : [v].length ≤ sizeLine := by
  rw [sizeLine_eq]
  exact (by decide : 1 ≤ 16777216)
theorem drop_own (C : Addr) (l : List Value) : ((Value.ref C :: l).dropWhile (· != .ref C)).drop 1 = l := by
  simp [List.dropWhile_cons]
section
variable {prog : Program} {w : World} {A : Around} {E : Value → Shared → Prop} {h : Heap} {g : Array GenState} {d : Drawn} {t : Nat} {os : OsState}
variable {nm q : Str} {C N : Addr} {bs bm : List Value} {hdct : Bool} {sn : List Str} {sub : List Value} {ab : Bool} {col : Option Bool} {dd : Option Addr} {k0 k1 k2 k3 k5 : Option Value}
/-- the bound ValueError.__init__ of an exception at e called -/
theorem call_mw {u e t0 : Addr} {rest : List Value} {Q : Value → Shared → Prop}
    (hC : h.get? C = some (excClassObj nm q C N bs bm hdct sn sub ab col dd k0 k1 k2 k3 k5 "ValueError.__new__")) (he : h.get? e = some (excO C t0)) (hu : h.get? u = some (kxs_mw "ValueError.__init__" e)) (hrest : rest.length ≤ sizeLine)
    (hq : ∀ h', (∀ b o, b ≠ e → h.get? b = some o → h'.get? b = some o) → h'.get? e = some (excO C h.objs.size) → Q .none ⟨h', g, d, t, os⟩) :
    wpAny (model prog w) A (call (.ref u) rest) Q E ⟨h, g, d, t, os⟩ := by
  refine wpAny_call (codeAny_of_tree ?_)
  show wpAny _ A.in1 (callAny (.ref u) ⟨rest, []⟩) _ _ _
  simp only [callAny]
  refine wpAny_bind (wpAny_load hu ?_)
  simp only [kxs_mw, show (Value.type "method-wrapper" == Value.type "method" || Value.type "method-wrapper" == Value.type "builtin_function_or_method" || Value.type "method-wrapper" == Value.type "method-wrapper") = true by decide, if_true]
  refine KFB.if_so (by decide) ?_
  refine wpAny_bind (check_bound_init F.excBase_ValueError.toExcCallFacts hC he rfl ?_)
  refine wpAny_bind (wpAny_pure (wpAny_pure ?_))
  refine ⟨plainId_quiet F.excBase_ValueError.init.plain _, codeAny_builtin F.excBase_ValueError.initEntry ?_⟩
  exact exc_init_tree (cls := .ref C) (t0 := t0) (dv := none) (c2 := .none) (c3 := .none) (b4 := .bool false) he hrest fun h' k e' _ => hq h' k e'
end
section
variable {M : Model} {A : Around} {E : Value → Shared → Prop} {s : Shared}
theorem callWith_mw1 {i : String} {env : Env} {e : Expr} {pos : Pos} {u x : Addr} {Q : Value → Shared → Prop} (h : wpAny M A (eval e env) (fun v s₁ => KxsAt i u x s₁.heap ∧ wpAny M A (call (.ref u) [v]) Q E s₁) E s)
    (he : starEach [e] env = [(false, eval e env)] := by rfl) : wpAny M A (callWith pos (.ref u) [] (backTo pos (starEach [e] env)) []) Q E s := by
  rw [he]
  exact kxs_callWith (i := i) (x := x) rfl (evalArgs_plain (Calls.spliced_cons (wpAny_mono h (fun v s₁ h₁ => Calls.spliced_nil h₁) fun _ _ z => z)))
end
/-- what __init__ leaves of a fresh exception at x -/
structure InitEnd (h h' : Heap) (x C dx : Addr) (v : Value) : Prop where
  keep : ∀ b o, b ≠ x → h.get? b = some o → h'.get? b = some o
  obj : ∃ t1 : Addr, h'.get? x = some { cls := .ref C, dict := some dx, data := .fields #[.ref t1, .none, .none, .none, .bool false, .none] }
  dbig : h.objs.size ≤ dx
  dne : dx ≠ x
  ns : h'.Ns1 dx (fun y => if y = "index" then some v else none)
section
variable {prog : Program} {w : World} {A : Around} {E : Value → Shared → Prop} {R : Result → Shared → Prop} {s : Shared} {K : Frag} {mg mb : Str → Option Value} {cn qn : Str} {C fI : Addr}
theorem bad_store (T : BadTxt prog K mg cn qn C fI) {x t1 L fa cc : Addr} {cdv v : Value} {q10 q11 q12 q13 : Pos} {m : Str → Option Value} {h₀ h : Heap} {g : Array GenState} {d : Drawn} {t : Nat} {os : OsState} {Q : Flow → Shared → Prop}
    (X : K.In h) (hx : h.get? x = some (excO C t1)) (hn : h.Ns L m) (h1 : m "self" = some (.ref x)) (h2 : m "index" = some v) (k : ∀ b o, b ≠ x → h₀.get? b = some o → h.get? b = some o) (hs : h₀.objs.size ≤ h.objs.size)
    (hq : ∀ h' tk dx, InitEnd h₀ h' x C dx v → Q .next ⟨h', g, d, tk, os⟩) :
    wpAny (model prog w) A (execs [.Assign [.Attribute (.Name "self" q10) "index" q11] (.Name "index" q12) q13] (ksEnv qn bS L fa cdv cc)) Q E ⟨h, g, d, t, os⟩ := by
  obtain ⟨nm, q, N, bs, bm, sn, sub, ab, col, dd, k0, k1, k2, k3, k5, hC, hbm, _⟩ := T.cls
  have hcl : clsIn K C = some { name := nm, bases := bs, mro := .ref C :: bm, ns := N, qualname := q, hasDict := true, slotNames := sn, subclasses := sub, abstract := ab, collection := col, hasDel := false } := by unfold clsIn; rw [hC] <;> rfl
  refine wpAny_execs_cons (plainObj_wpAny_Assign_Attribute ?_)
  refine wpAny_Name (wpAny_loadName_local rfl rfl hn h2 ?_) (by decide)
  refine wpAny_Name (wpAny_loadName_local rfl rfl hn h1 ?_) (by decide)
  refine set_plain X (ox := excO C t1) (od := none) ⟨hx, rfl, rfl, trivial⟩ T.sa ?_
  refine exc_osa X hx hcl (show refsVE (.ref C :: bm) = true from hbm) rfl T.noN (fun h₃ tk₃ dx k₃ dn dne hx₃ hn₃ => ?_)
  exact wpAny_execs_nil (hq h₃ tk₃ dx ⟨fun b o hb e => k₃ b o hb (k b o hb e), ⟨t1, hx₃⟩, Nat.le_trans hs dn, dne, hn₃⟩)
theorem bad_init (T : BadTxt prog K mg cn qn C fI) {x t0 : Addr} {v : Value} (hv : IdxV v) (X : K.In s.heap) (G : s.heap.Ns mainGlobals mg) (B : s.heap.Ns builtinsNs mb) (hb : mb "super" = some (.type "super"))
    (hlim : s.heap.NoLimit) (hx : s.heap.get? x = some (excO C t0)) (hnx : K.lookup x = none) (hroom : A.depth < recursionLimit)
    (hq : ∀ h' tk dx, InitEnd s.heap h' x C dx v → R (.ok (.ret .none)) { s with heap := h', toks := tk }) :
    codeAny (model prog w) A (.call (.ref fI) ⟨[.ref x, v], []⟩) R s := by
  obtain ⟨oc, od, doc, pm, an, ct, osl, cda, cc, pre, ln, c1, c2, c3, l2, c4, p1, p2, q1, q2, q4, q5, q6, q7, q9, q10, q11, q12, q13, ho, hcd, ⟨ccl, cdd, vs, ccs, file, tf, hco, hvs, hfile⟩, ⟨cl, cld, csl, hcell⟩, z1, z2, z3⟩ := T.fn
  obtain ⟨nm, q, N, bs, bm, sn, sub, ab, col, dd, k0, k1, k2, k3, k5, hC, hbm, hal⟩ := T.cls
  have hcl : clsIn K C = some { name := nm, bases := bs, mro := .ref C :: bm, ns := N, qualname := q, hasDict := true, slotNames := sn, subclasses := sub, abstract := ab, collection := col, hasDel := false } := by unfold clsIn; rw [hC] <;> rfl
  have hxC : x ≠ C := fun z => by rw [z, hC] at hnx; cases hnx
  refine ks_codeAny_call_defAt (fd := ksFn "__init__" qn (bA p1 p2) (bB pre ln c1 c2 c3 l2 c4 q1 q2 q4 q5 q6 q7 q9 q10 q11 q12 q13) bS .none .none doc pm an (.ref cda) ct cc) (binds := [("self", .ref x), ("index", v)])
    hroom (X _ _ ho) rfl hlim (codeRec_of X hcd) rfl (BindsTo.of_eq (by first | rfl | with_unfolding_all rfl)) (show ∀ x ∈ bS.names, x.2 ≠ .cell by decide)
    (fun y hy => by simp only [List.mem_cons, List.not_mem_nil, or_false] at hy; rcases hy with rfl | rfl <;> rfl) (fun h₁ hn k => ?_)
  obtain ⟨hp, g, d, t, os⟩ := s
  dsimp only at *
  have X₁ : K.In h₁ := X.keeps k
  have hx₁ := k _ _ hx
  show wpAt _ _ (.func _ (ksEnv qn bS hp.objs.size fI (.ref cda) cc)) (execs _ (ksEnv qn bS hp.objs.size fI (.ref cda) cc)) _ _ _
  refine ks_wpAt_execs_cons (ks_wpAt_Expr_any (ks_wpAt_MethodCall (he := eval_meth (by simp) rfl) ?_))
  refine ks_wpAt_super_base (env := ksEnv qn bS hp.objs.size fI (.ref cda) cc) rfl rfl (by decide) rfl (X₁ _ _ ho) rfl rfl rfl (X₁ _ _ hco) rfl hvs hfile T.top ?_
  refine ks_loadName_global rfl rfl (loadGlobal_builtin (env := ksEnv qn bS hp.objs.size fI (.ref cda) cc) (G.keeps k) T.noS (B.keeps k) hb ⟨rfl, ?_⟩)
  refine wpAny_loadName_free rfl rfl rfl ⟨_, X₁ _ _ hcell, rfl⟩ ?_
  refine wpAny_loadName_local rfl rfl hn (show _ = some (Value.ref x) from rfl) ?_
  refine ks_wpAny_isType_cls (X₁ _ _ hC) rfl ⟨rfl, ?_⟩
  have sub : mroIn K C (.ref C) = some true := by
    unfold mroIn
    rw [hcl, Option.bind_some, if_neg (by simp)]
    simp [List.contains_cons]
  have sub2 : mroIn K C (.type "ValueError") = some true := by
    unfold mroIn
    rw [hcl, Option.bind_some, if_neg (by simp), show (Value.ref C :: bm).contains (.type "ValueError") = true from (refsVE_contains "ValueError" (.ref C :: bm) hbm).trans (by decide +kernel)]
  refine ks_wpAny_call_super (X₁ _ _ hC) rfl hx₁ rfl (fun c e => by cases e) (looks_mroIn X₁ sub) (fun h₂ hso k₂ => ?_)
  have X₂ : K.In h₂ := X₁.keeps k₂
  have hx₂ := k₂ _ _ hx₁
  have I₂ : InstAt h₂ x (excO C t0) C none := ⟨hx₂, rfl, rfl, trivial⟩
  refine kxs_getMethod kxs_ValueError hso (looks_opaque X₂ T.opq) ((looks_clsIn X₂ hcl).andThen .now) (drop_own C bm) X₂ hal (I₂.type.andThen (looks_mroIn X₂ sub2)) hxC (by decide) ?_
  have k₃ : ∀ b o, h₂.get? b = some o → (h₂.push (kxs_mw "ValueError.__init__" x)).get? b = some o := fun b o e => Heap.get?_push_of_some _ e
  have hmw : (h₂.push (kxs_mw "ValueError.__init__" x)).get? h₂.objs.size = some (kxs_mw "ValueError.__init__" x) := Heap.get?_push_at rfl rfl
  generalize h₂.push (kxs_mw "ValueError.__init__" x) = h₃ at k₃ hmw ⊢
  generalize h₂.objs.size = u at hmw ⊢
  have X₃ : K.In h₃ := X₂.keeps k₃
  have hx₃ := k₃ _ _ hx₂
  have n₃ : h₃.Ns hp.objs.size (fun x_1 => List.lookup x_1 [(Str.ofString "self", Value.ref x), (Str.ofString "index", v)].reverse) := hn.keeps fun b o e => k₃ b o (k₂ b o e)
  refine callWith_mw1 (i := "ValueError.__init__") (x := x) ?_
  refine wpAny_JoinedStr ?_
  refine Calls.Constant_str ⟨pre, _, rfl, z1, ?_⟩
  refine wpAny_FormattedValue_plain (wpAny_Name (wpAny_loadName_local rfl rfl n₃ (show _ = some v from rfl) ?_) (by decide))
  rcases hv with rfl | ⟨i, ti, hi, rfl⟩
  · refine wpAny_formatField_none ⟨_, _, rfl, z2, z2, hmw, ?_⟩
    refine call_mw (X₃ _ _ hC) hx₃ hmw (one_size _) (fun h₄ k₄ hx₄ => wpAt_of_wpAny ?_)
    obtain ⟨oL, es, ep, hL, rL⟩ := n₃
    have neL : hp.objs.size ≠ x := Nat.ne_of_gt (Heap.lt_size hx)
    have X₄ : K.In h₄ := kept_but X₃ hnx k₄
    refine bad_store (h₀ := hp) T X₄ hx₄ ⟨oL, es, ep, k₄ _ _ neL hL, rL⟩ rfl rfl (fun b o hb e => k₄ b o hb (k₃ b o (k₂ b o (k b o e)))) (Nat.le_of_lt (Heap.lt_size (k₄ _ _ neL hL))) hq
  · refine wpAny_formatField_int (by
      have : (i : Int).natAbs < 64 := by simpa using hi
      have e := Nat.log2_le_self (i : Int).natAbs
      omega) ⟨_, _, rfl, z3 i hi, z3 i hi, hmw, ?_⟩
    refine call_mw (X₃ _ _ hC) hx₃ hmw (one_size _) (fun h₄ k₄ hx₄ => wpAt_of_wpAny ?_)
    obtain ⟨oL, es, ep, hL, rL⟩ := n₃
    have neL : hp.objs.size ≠ x := Nat.ne_of_gt (Heap.lt_size hx)
    have X₄ : K.In h₄ := kept_but X₃ hnx k₄
    refine bad_store (h₀ := hp) T X₄ hx₄ ⟨oL, es, ep, k₄ _ _ neL hL, rL⟩ rfl rfl (fun b o hb e => k₄ b o hb (k₃ b o (k₂ b o (k b o e)))) (Nat.le_of_lt (Heap.lt_size (k₄ _ _ neL hL))) hq
/-- a made one -/
structure OwnMade (h h' : Heap) (e C d : Addr) (v : Value) : Prop where
  keep : ∀ b o, h.get? b = some o → h'.get? b = some o
  new : h.objs.size ≤ e
  obj : ∃ oe vs, h'.get? e = some oe ∧ oe.cls = .ref C ∧ oe.dict = some d ∧ oe.data = .fields vs ∧ vs[1]? = some .none
  dbig : h.objs.size ≤ d
  dne : d ≠ e
  ns : h'.Ns1 d (fun y => if y = "index" then some v else none)
theorem bad_made (T : BadTxt prog K mg cn qn C fI) {v : Value} (hv : IdxV v) (X : K.In s.heap) (G : s.heap.Ns mainGlobals mg) (B : s.heap.Ns builtinsNs mb) (hb : mb "super" = some (.type "super"))
    (hlim : s.heap.NoLimit) (hroom : A.depth + 1 < recursionLimit)
    (hq : ∀ h' tk e d, OwnMade s.heap h' e C d v → R (.ok (.ret (.ref e))) { s with heap := h', toks := tk }) :
    codeAny (model prog w) A (.call (.ref C) ⟨[v], []⟩) R s := by
  obtain ⟨nm, q, N, bs, bm, sn, sub, ab, col, dd, k0, k1, k2, k3, k5, hC, hbm, _⟩ := T.cls
  obtain ⟨hp, g, dr, tk, os⟩ := s
  have k : ∀ b o, hp.get? b = some o → ((hp.push (kdv_tup [v])).push (excO C hp.objs.size)).get? b = some o := fun b o e => Heap.get?_push_of_some _ (Heap.get?_push_of_some _ e)
  have hget : ((hp.push (kdv_tup [v])).push (excO C hp.objs.size)).get? (hp.objs.size + 1) = some (excO C hp.objs.size) := by heap_get
  have hnx : K.lookup (hp.objs.size + 1) = none := by
    cases e : K.lookup (hp.objs.size + 1) with
    | none => rfl
    | some o =>
      have z : hp.get? (hp.objs.size + 1) = some o := X _ _ e
      exact absurd (Nat.lt_of_succ_lt (Heap.lt_size z)) (Nat.lt_irrefl _)
  refine call_own F.excBase_ValueError (fun X => refsVE_contains X bm hbm) (X _ _ hC) (looks_findIn X T.iC) (fun self => bind_fn X self T.tC) (one_size v) ?_
  refine bad_init (s := ⟨(hp.push (kdv_tup [v])).push (excO C hp.objs.size), g, dr, tk, os⟩) T hv (X.keeps k) (G.keeps k) (B.keeps k) hb (hlim.keeps k) hget hnx ?_ fun h' tk' dx ⟨k', ⟨t1, hx⟩, dn, dne, hns⟩ => ?_
  · show A.depth + 1 < recursionLimit
    exact hroom
  · have old : ∀ b o, hp.get? b = some o → h'.get? b = some o := fun b o e => k' b o (Nat.ne_of_lt (Nat.lt_succ_of_lt (Heap.lt_size e))) (k b o e)
    have z : hp.objs.size + 1 + 1 ≤ dx := by
      first
        | (simpa only [Heap.size_push] using dn)
        | exact dn
        | (have q := dn; rw [Heap.size_push, Heap.size_push] at q; exact q)
    exact ⟨rfl, hq h' tk' (hp.objs.size + 1) dx ⟨old, Nat.le_succ _, ⟨_, _, hx, rfl, rfl, rfl, rfl⟩, Nat.le_trans (Nat.le_trans (Nat.le_succ _) (Nat.le_succ _)) z, dne, hns⟩⟩
end
end BadX
end PySem
namespace L2
open PySem PySem.Spec PyProof.Rows
theorem relO_idx {v : V} {v' : Value} (r : RelV v v') (f : Str) : RelO (List.lookup f [(("index" : Str), v)]) (if f = "index" then some v' else none) := by
  by_cases hw : f = "index"
  · subst hw
    rw [if_pos rfl]
    have q : List.lookup ("index" : Str) [(("index" : Str), v)] = some v := by simp [List.lookup]
    rw [q]
    exact r
  · rw [if_neg hw]
    have qw : (f == ("index" : Str)) = false := by simpa using hw
    have q2 : List.lookup f [(("index" : Str), v)] = none := by simp [List.lookup, qw]
    rw [q2]
    trivial
/-- none or a small whole number -/
def Idx (v : V) : Prop := v = .non ∨ ∃ i : Nat, i < 64 ∧ v = .int i
theorem idx_of {v : V} {u : Value} (h : Idx v) (r : RelV v u) : PySem.BadX.IdxV u := by
  rcases h with rfl | ⟨i, hi, rfl⟩
  · exact .inl r
  · obtain ⟨t, rfl⟩ := r
    exact .inr ⟨i, t, hi, rfl⟩
section
variable {X : Cx} {C fI : Addr} {cn qn : Str}
/-- C(e) -/
def tMkBad (C : Addr) (ta : TA) : St → Hp → XK → Prop := fun σ H Q => ta σ H fun vs H1 => ∃ v, vs = [v] ∧ Idx v ∧ ∀ d, H1 d = none → Q (.ref C) (some d) (upd H1 d (.xd [(("index" : Str), v)]))
theorem pmk_bad {a : Expr} {ta : TA} {p pos : Pos} {k : Nat} (T : PySem.BadX.BadTxt X.prog X.K X.mg cn qn C fI) (hr : Room k X.A) (ha : PA X [a] ta) (hg : Gl X cn := by rfl)
    (hd : (cn == ("__debug__" : Str)) = false := by decide)
    (he : starEach (a :: []) X.env = (false, eval a X.env) :: starEach [] X.env := by rfl) (hpl : (backTo pos (starEach [] X.env)).any (·.1) = false := by rfl) :
    PMk X (.Call (.Name cn p) [a] [] pos) (tMkBad C ta) := by
  intro pins s σ H Q I h
  refine wpAny_Call_Name_kw (ld_glob I hg T.gC ?_ hd)
  refine PySem.W.callWith_K (h₀ := X.base) I.ok.mod.kin T.kC (thn (ha.run pos pins s σ H _ I h) fun us s1 hh => ?_) he hpl
  obtain ⟨vs, H1, I1, r1, v, ev, iv, q1⟩ := hh
  subst ev
  refine ⟨I1.kIn, ?_⟩
  cases r1 with
  | cons rv rn =>
    rename_i v' us'
    cases rn
    show wpAny _ _ (call (.ref C) [v']) _ _ _
    have hlim := I1.nolimit
    obtain ⟨mb, hb1, hb2⟩ := I1.mod.blt
    have hbs : mb "super" = some (.type "super") := (hb2 "super" (by decide)).trans (by first | rfl | boot_by_name)
    have hgl := I1.mod.glob.keeps I1.bk
    have hbl := hb1.keeps I1.bk
    obtain ⟨hp, g, dr, tk, os⟩ := s1
    refine wpAny_call (PySem.BadX.bad_made T (idx_of iv rv) I1.kIn hgl hbl hbs hlim (by have := hr.dp; omega) fun h' tk' e d M => ?_)
    show MkP X pins σ Q (.ref e) ⟨h', g, dr, tk', os⟩
    obtain ⟨oe, fv, hoe, hc, hd, hdat, h1⟩ := M.obj
    have hns := M.ns
    obtain ⟨G', g1, g2⟩ := restrict h' fun b => decide (b ≠ e)
    have gk : ∀ b, b ≠ e → G'.get? b = h'.get? b := fun b hb => g1 b (decide_eq_true hb)
    have ge : G'.get? e = none := g2 e (by simp)
    have old : ∀ b o, hp.get? b = some o → G'.get? b = some o := fun b o q => (gk b (Nat.ne_of_lt (Nat.lt_of_lt_of_le (Heap.lt_size q) M.new))).trans (M.keep b o q)
    have ob : ObjOk X.prog X.w (upd H1 d (.xd [(("index" : Str), v)])) G' d (.xd [(("index" : Str), v)]) :=
      ⟨_, hns.at (fun o q => (gk d M.dne).trans q), fun f => relO_idx rv f⟩
    have J : Inv X pins σ (upd H1 d (.xd [(("index" : Str), v)])) ⟨G', g, dr, tk', os⟩ := I1.laid (t' := tk') old M.dbig ob
    refine ⟨e, oe, fv, ⟨G', g, dr, tk', os⟩, _, .ref C, some d, rfl, J, fun b o q => ?_, ge, hoe, ⟨hc, hd⟩, hdat, h1, ?_, rfl, I1.bare, raises_own T.exC T.tyC, q1 d (I1.hok.fresh M.dbig)⟩
    · by_cases hb : b = e
      · have q' : G'.get? b = some o := q
        rw [hb, ge] at q'; cases q'
      · exact (gk b hb).symm.trans q
    · rw [upd_ne (Ne.symm M.dne)]
      exact I1.hok.fresh M.new
/-- raise C(e) -/
def tRaiseBad (C : Addr) (W : WX) (ta : TA) : TS := fun _ σ H => tMkBad C ta σ H fun cls d H' => W cls d σ H'
theorem ps_raiseBad {a : Expr} {ta : TA} {W : WX} {p pos pos2 : Pos} {k : Nat} (hc : X.calm = true) (T : PySem.BadX.BadTxt X.prog X.K X.mg cn qn C fI) (hr : Room k X.A) (tk : Takes X W) (ha : PA X [a] ta) (hg : Gl X cn := by rfl)
    (hd : (cn == ("__debug__" : Str)) = false := by decide)
    (he : starEach (a :: []) X.env = (false, eval a X.env) :: starEach [] X.env := by rfl) (hpl : (backTo pos (starEach [] X.env)).any (·.1) = false := by rfl) :
    PS X (.Raise (some (.Call (.Name cn p) [a] [] pos)) none pos2) (tRaiseBad C W ta) := ps_raise hc tk (pmk_bad T hr ha hg hd he hpl)
/-- error.index, error the exception that the suite holds (at a; its class cls, its dict d) -/
def tIndexOf (C : Addr) (a : Addr) (cls : Value) (d : Option Addr) (te : TE) : TE := fun σ H Q => te σ H fun x H1 => x = .ref a ∧ cls = .ref C ∧ ∃ (dd : Addr) (v : V), d = some dd ∧ H1 dd = some (.xd [(("index" : Str), v)]) ∧ Q v H1
theorem pe_indexOf {a : Addr} {oe : Obj} {cls : Value} {d : Option Addr} {pn : List (Addr × Obj)} {e : Expr} {te : TE} {pos : Pos} (T : PySem.BadX.BadTxt X.prog X.K X.mg cn qn C fI) (hz : Zc cls d oe) (hf : ∃ vs, oe.data = .fields vs) (he : PE (X.suite a ((a, oe) :: pn)) e te)
    (hb : attributeBase e "index" X.env (eval e X.env) = eval e X.env := by rfl) :
    PE (X.suite a ((a, oe) :: pn)) (.Attribute e "index" pos) (tIndexOf C a cls d te) := by
  refine ⟨fun pins s σ H Q I h => ?_⟩
  refine attr_of hb (thn (he.run pins s σ H _ I h) fun u s1 hh => ?_)
  obtain ⟨x, H1, I1, rx, ex, ec, dd, v, ed, ea, q⟩ := hh
  subst ex
  obtain rfl : u = Value.ref a := rx
  subst ec
  subst ed
  obtain ⟨ha, _⟩ := I1.pin (a, oe) (List.mem_append_left _ List.mem_cons_self)
  obtain ⟨vs, hd⟩ := hf
  have hx : ObjOk X.prog X.w H1 s1.heap dd (.xd [(("index" : Str), v)]) := I1.hok dd _ ea
  obtain ⟨mA, hns, hr⟩ := hx
  obtain ⟨od, ho, hl⟩ := lookIn_ns hns
  have l : List.lookup ("index" : Str) [(("index" : Str), v)] = some v := by simp [List.lookup]
  obtain ⟨u, hu, ru⟩ := RelO.some_of (v := v) (o := mA "index") (by rw [← l]; exact hr "index")
  have J : PySem.W.InstAt s1.heap a oe C (some od) := ⟨ha, hz.1, by unfold PySem.W.notCls; rw [hd] <;> rfl, by rw [hz.2]; exact ho⟩
  exact HandSPX.exc_get I1.kIn J T.ga T.gg T.exC (PySem.W.findObj_own T.hdC T.noN rfl (by rw [hl, hu])) (handed_of ru) ⟨v, H1, I1.tok _, ru, q⟩
end
end L2
namespace WS
open PySem PySem.Spec PyProof.Rows L2
section
variable {X : Cx} {k : Nat} {x : Str} {ps : List Str} {sp : Sp} {p pos : Pos} {e : Expr} {es : List Expr} {t : TA} {W : WX} {C : Addr}
/-- a call of a def that may raise -/
theorem pe_defX (G : DefK X.prog X.w X.K X.mg X.base (L2.CX X.prog X.w) k x ps sp) (hr : Room k X.A) (hg : Gl X x) (tk : Takes X W) (ha : PA X (e :: es) t) (hdb : (x == ("__debug__" : Str)) = false := by decide)
    (he : starEach (e :: es) X.env = (false, eval e X.env) :: starEach es X.env := by rfl) (hpl : (backTo pos (starEach es X.env)).any (·.1) = false := by rfl) :
    PE X (.Call (.Name x p) (e :: es) [] pos) (tCallS sp (WE W) t) := by
  obtain ⟨f, fd, a, b, c, d⟩ := G.ex
  exact pe_callS a hr hg b c d (fun σ => passAt tk σ) ha hdb he hpl
/-- an instance made by an __init__ that may raise -/
def tMakeS (C : Addr) (sp : Sp) (E : L2.St → XK) (t : TA) : TE := fun σ H Q => t σ H fun vs H1 => ∀ x dx, H1 x = none → H1 dx = none → dx ≠ x → sp (.ref x :: vs) (upd (upd H1 dx (.own x)) x (.ins C dx [])) (fun v H2 => v = .non ∧ Q (.ref x) H2) (E σ)
theorem pe_mkX (G : MkK X.prog X.w X.K X.mg X.base (L2.CX X.prog X.w) k C x ps sp) (hr : Room (k + 1) X.A) (hg : Gl X x) (tk : Takes X W) (ha : PA X (e :: es) t) (hdb : (x == ("__debug__" : Str)) = false := by decide)
    (he : starEach (e :: es) X.env = (false, eval e X.env) :: starEach es X.env := by rfl) (hpl : (backTo pos (starEach es X.env)).any (·.1) = false := by rfl) :
    PE X (.Call (.Name x p) (e :: es) [] pos) (tMakeS C sp (WE W) t) := by
  obtain ⟨f, fd, M, F, hb⟩ := G.ex
  refine ⟨fun pins s σ H Q I h => ?_⟩
  refine wpAny_Call_Name_kw (ld_glob I hg G.gl ?_ hdb)
  refine PySem.W.callWith_K (h₀ := X.base) I.ok.mod.kin M.kp (thn (ha.run pos pins s σ H _ I h) fun us s1 ⟨vs, H1, I1, r, q⟩ => ⟨I1.kIn, ?_⟩) he hpl
  have hq := q (s1.heap.objs.size + 1) s1.heap.objs.size (I1.hok.fresh (Nat.le_succ _)) (I1.hok.fresh (Nat.le_refl _)) (Nat.ne_of_lt (Nat.lt_succ_self _))
  have I2 := Inv.made (C := C) I1
  have r2 : Vals (V.ref (s1.heap.objs.size + 1) :: vs) (Value.ref (s1.heap.objs.size + 1) :: us) := .cons rfl r
  have hl : (Value.ref (s1.heap.objs.size + 1) :: us).length = ps.length := by
    have e := r2.length
    rw [F.len _ _ _ _ hq] at e
    exact e.symm
  have b := hb _ (Value.ref (s1.heap.objs.size + 1) :: us) I2.kIn (by rw [List.append_nil]; exact hl)
  rw [List.append_nil] at b
  refine wpAny_call (make_map (f := f) I1.kIn M.makes M.init (beq_iff_eq.mp M.fn) (codeAny_mono (F.run _ X.stack _ _ ⟨Value.ref (s1.heap.objs.size + 1) :: us, []⟩ (Value.ref (s1.heap.objs.size + 1) :: us) _ _ (WE W σ) (hr.make C us [])
    (I2.env0.make C us []) b r2 hq) fun r s' hq' => ?_))
  cases r with
  | error e => exact passAt tk σ pins _ _ e s' I2 hq'
  | ok fl =>
    cases fl with
    | ret u =>
      obtain ⟨v, H', I3, rv, ev, q3⟩ := I2.after hq'
      subst ev
      exact ⟨rv, ⟨V.ref (s1.heap.objs.size + 1), H', I3, rfl, q3⟩⟩
    | next => exact False.elim hq'
    | brk => exact False.elim hq'
    | cont => exact False.elim hq'
/-! ### isinstance of the error that the suite holds, which has a dict -/
def rIsX (K : PySem.W.Frag) (D a : Addr) (cls : Value) (d : Option Addr) : List V → Hp → VK → Prop := fun xs H Q => ∃ (c : V) (cv : Value) (b : Bool) (dd : Addr) (fs : List (Str × V)), xs = [.ref a, c] ∧ (∀ u, RelV c u → u = cv) ∧ cls = .ref D ∧ d = some dd ∧ H dd = some (.xd fs) ∧ PySem.W.kitOne K (.ref D) cv = some b ∧ Q (.bl b) H
theorem call_isX {a D : Addr} {cls : Value} {d : Option Addr} {oe : Obj} {pn : List (Addr × Obj)} (C : ExcC X.K D) (hz : Zc cls d oe) (hf : ∃ vs, oe.data = .fields vs) : CallR (X.suite a ((a, oe) :: pn)) (.builtin "isinstance") (rIsX X.K D a cls d) := by
  intro pins s σ H xs us Q I r h
  obtain ⟨c, cv, b, dd, fs, rfl, hcv, rfl, rfl, ea, e, q⟩ := h
  cases r with
  | cons rx rr =>
    cases rr with
    | cons rt rr =>
      cases rr
      cases rx
      have ec := hcv _ rt
      subst ec
      obtain ⟨hget, _⟩ := I.pin (a, oe) (List.mem_append.mpr (.inl List.mem_cons_self))
      obtain ⟨vs, hv⟩ := hf
      have hx : ObjOk X.prog X.w H s.heap dd (.xd fs) := I.hok dd _ ea
      obtain ⟨mA, hns, hr⟩ := hx
      obtain ⟨od, ho, hl⟩ := lookIn_ns hns
      have J : PySem.W.InstAt s.heap a oe D (some od) := ⟨hget, hz.1, by unfold PySem.W.notCls; rw [hv] <;> rfl, by rw [hz.2]; exact ho⟩
      have hcl : (PySem.W.clsIn X.K D).isSome = true := by obtain ⟨cd, hc, _⟩ := PySem.W.any_some C.hd; rw [hc]; rfl
      exact PySem.W.kia_one (PySem.W.kitx_exc hcl C.hg C.hk C.hs C.ha C.hn C.ht C.hm) I.kIn J e (fun z => nomatch z) fun tk => ⟨.bl b, H, I.kept (t' := tk) fun _ _ z => z, rfl, q⟩
theorem kit_ref {K : PySem.W.Frag} {t : Value} {C : Addr} {b : Bool} (h1 : PySem.W.isClsIn K C = true) (h2 : PySem.W.typeIn K (.ref C) = some (.type "type")) (h3 : PySem.W.subIn K t (.ref C) = some b) (h4 : t = .ref C → b = true) : PySem.W.kitOne K t (.ref C) = some b := by
  unfold PySem.W.kitOne
  by_cases e : t = .ref C
  · rw [if_pos (beq_iff_eq.mpr e), h4 e]
  · rw [if_neg (fun z => e (beq_iff_eq.mp z))]
    have h1' : (PySem.W.clsIn K C).isSome = true := h1
    show (if ((PySem.W.clsIn K C).isSome && PySem.W.typeIn K (.ref C) == some (.type "type")) = true then PySem.W.subIn K t (.ref C) else none) = some b
    rw [h1', h2, h3]
    rfl
/-- an own class whose instances isinstance is asked of -/
structure InsC (K : PySem.W.Frag) (C : Addr) : Prop where
  cl : Cls K C
  ha : PySem.W.findIn K (.ref C) "__class__" = some (some (.builtin "object.__class__"))
  hn : PySem.W.specialIn K (.builtin "object.__class__") "__get__" = some (some (.builtin "getset_descriptor.__get__"))
  ht : PySem.W.takesIn K (.builtin "object.__class__") = some true
  hm : PySem.W.mroIn K C (.type "object") = some true
  me : PySem.W.kitOne K (.ref C) (.ref C) = some true
  tup : PySem.W.kitOne K (.type "tuple") (.ref C) = some false
theorem InsC.ty {K : PySem.W.Frag} {C : Addr} (c : InsC K C) {H : Hp} {a dx : Addr} {fs : List (Str × V)} (e : H a = some (.ins C dx fs)) : TyX K H (.ref a) (.ref C) := .base (.ins e c.cl c.ha c.hn c.ht c.hm)
/-! ### == -/
/-- the class's own __eq__ -/
structure EqK (P : Program) (w : World) (K : PySem.W.Frag) (mg : Str → Option Value) (base : Heap) (k : Nat) (C : Addr) (sp : Sp) : Prop where
  ex : ∃ f fd, PySem.W.findIn K (.ref C) "__eq__" = some (some (.ref f)) ∧ PySem.W.isFn K (.ref f) = true ∧ FnOk P w K mg base CX0 k f fd ["self", "other"] sp ∧ Binds K fd ["self", "other"] []
  nt : PySem.W.subIn K (.type "tuple") (.ref C) = some false
def rEqO (K : PySem.W.Frag) (C : Addr) (sp : Sp) : R2 := fun x y H Q => ∃ a dx fs b, x = .ref a ∧ H a = some (.ins C dx fs) ∧ y = .ref b ∧ ((∃ dy gs, H b = some (.ins C dy gs)) ∨ ∃ ys, SqT K H b ys) ∧ sp [.ref a, .ref b] H (fun v H' => ∃ r, v = .bl r ∧ Q (.bl r) H') E0
theorem op_eqO (G : EqK X.prog X.w X.K X.mg X.base k C sp) (hr : Room k X.A) : OpR X (compareOp .Eq) (rEqO X.K C sp) := by
  intro pins s σ H x y v u Q I rx ry hq
  obtain ⟨a, dx, fs, b, rfl, ha, rfl, hb, q⟩ := hq
  cases rx
  cases ry
  show wpAny (model X.prog X.w) X.A (richCompare .Eq (.ref a) (.ref b)) (EP X pins σ Q) X.xe s
  obtain ⟨f, fd, hs, hf, F, hbd⟩ := G.ex
  obtain ⟨mA, J, _⟩ := ins_get I.hok ha
  obtain ⟨od, J, _⟩ := J.look
  obtain ⟨m, hF⟩ := I.fr
  obtain ⟨tb, lk, nf⟩ : ∃ tb, PySem.W.Looks (model X.prog X.w) s.heap (typeOf (.ref b)) tb ∧ PySem.W.notFirst X.K C tb = true := by
    rcases hb with ⟨dy, gs, hb⟩ | ⟨ys, hb⟩
    · obtain ⟨mB, J', _⟩ := ins_get I.hok hb
      obtain ⟨od', J', _⟩ := J'.look
      exact ⟨_, J'.type, by simp [PySem.W.notFirst]⟩
    · obtain ⟨its, r, ⟨o, ho, hc, n, hd⟩, z⟩ := I.tuple hb
      refine ⟨.type "tuple", ?_, by unfold PySem.W.notFirst; rw [G.nt]; rfl⟩
      exact hc ▸ (PySem.W.Looks.ld ho).andThen .now
  refine PySem.W.cmp_K (op := .Eq) (tb := tb) hr.units0 hF I.ok.mod.kin J lk nf hs hf ?_
  have hl := F.len _ _ _ _ q
  have r2 : Vals [V.ref a, V.ref b] [Value.ref a, Value.ref b] := .cons rfl (.cons rfl .nil)
  refine wpAny_call (codeAny_mono (F.run X.A X.stack s H ⟨[.ref a, .ref b], []⟩ [.ref a, .ref b] [.ref a, .ref b] _ E0 hr I.env0 (by
    have := hbd s [.ref a, .ref b] I.kIn (by simpa using hl)
    simpa using this) r2 q) fun r s' hq => ?_)
  cases r with
  | error e => exact False.elim hq
  | ok fl =>
    cases fl with
    | ret w =>
      obtain ⟨z, H', I', rz, r, ez, ex⟩ := I.after hq
      subst ez
      cases rz
      exact ⟨.bl r, H', I', rfl, ex⟩
    | next => exact False.elim hq
    | brk => exact False.elim hq
    | cont => exact False.elim hq
theorem k_eqO (K : PySem.W.Frag) (G : EqK X.prog X.w K X.mg X.base k C sp) (hr : Room k X.A) (e : X.K = K := by rfl) : OpR X (compareOp .Eq) (rEqO K C sp) := by subst e; exact op_eqO G hr
end
end WS
namespace WS
open PySem L2
/-- the heap without the source -/
def cut (h l : Addr) (H : Hp) : Hp := fun b => if b = h ∨ b = l then none else H b
/-- d stands at v whatever becomes of the source -/
def Dk (K : PySem.W.Frag) (h l : Addr) (H : Hp) (v : V) (d : PyData) : Prop := Dp K (cut h l H) v d
def DkA (K : PySem.W.Frag) (h l : Addr) (H : Hp) (vs : List V) (ds : List PyData) : Prop := DpAll K (cut h l H) vs ds
section
variable {K : PySem.W.Frag} {h l : Addr} {H H' : Hp} {v : V} {vs ws : List V} {d : PyData} {ds es : List PyData}
theorem cut_at {b : Addr} (n1 : b ≠ h) (n2 : b ≠ l) : cut h l H b = H b := if_neg fun z => z.elim n1 n2
theorem cut_same : Same (cut h l H) H := fun b o e => by
  unfold cut at e
  split at e
  · cases e
  · exact e
theorem cut_keep (k : Keep h l H H') : Same (cut h l H) (cut h l H') := fun b o e => by
  have e' := cut_same b o e
  unfold cut at e
  split at e
  · cases e
  · rename_i n
    have n1 : b ≠ h := fun z => n (.inl z)
    have n2 : b ≠ l := fun z => n (.inr z)
    rw [cut_at n1 n2]
    exact k b o n1 n2 e'
theorem cut_new {p : Addr} {o : HO} (s : Src H h l) (hp : H p = none) : cut h l (upd H p o) p = some o := by
  obtain ⟨n1, n2⟩ := s.neN hp
  rw [cut_at n1 n2]
  exact upd_same
theorem Dk.dp (x : Dk K h l H v d) : Dp K H v d := dp_same cut_same x
theorem DkA.dp (x : DkA K h l H vs ds) : DpAll K H vs ds := dps_same cut_same x
theorem Dk.keep (x : Dk K h l H v d) (k : Keep h l H H') : Dk K h l H' v d := dp_same (cut_keep k) x
theorem DkA.keep (x : DkA K h l H vs ds) (k : Keep h l H H') : DkA K h l H' vs ds := dps_same (cut_keep k) x
theorem Dk.same (x : Dk K h l H v d) (k : Same H H') : Dk K h l H' v d := x.keep (Keep.of k)
theorem DkA.same (x : DkA K h l H vs ds) (k : Same H H') : DkA K h l H' vs ds := x.keep (Keep.of k)
theorem Dk.of (s : Src H h l) (x : Dp K H v d) (n : noL d = true) : Dk K h l H v d := dp_monoT (fun a xs e => by
  rcases e with e | e
  · obtain ⟨n1, n2⟩ := s.neT e
    rcases e with e | ⟨o, e⟩
    · exact .inl (.inl (by rw [cut_at n1 n2]; exact e))
    · exact .inl (.inr ⟨o, by rw [cut_at n1 n2]; exact e⟩)
  · exact .inr e) x n
theorem DkA.nil : DkA K h l H [] [] := DpAll.nil
theorem DkA.cons (x : Dk K h l H v d) (y : DkA K h l H vs ds) : DkA K h l H (v :: vs) (d :: ds) := DpAll.cons x y
theorem dps_app {H : Hp} : ∀ {vs ws : List V} {ds es : List PyData}, DpAll K H vs ds → DpAll K H ws es → DpAll K H (vs ++ ws) (ds ++ es)
  | _, _, _, _, .nil, b => b
  | _, _, _, _, .cons x a, b => .cons x (dps_app a b)
theorem DkA.app (x : DkA K h l H vs ds) (y : DkA K h l H ws es) : DkA K h l H (vs ++ ws) (ds ++ es) := dps_app x y
theorem DkA.len (x : DkA K h l H vs ds) : vs.length = ds.length := dps_len x
theorem dps_drop {H : Hp} : ∀ {vs : List V} {ds : List PyData} (n : Nat), DpAll K H vs ds → DpAll K H (vs.drop n) (ds.drop n)
  | _, _, 0, a => a
  | _, _, n + 1, .nil => .nil
  | _, _, n + 1, .cons _ a => dps_drop n a
theorem dps_take {H : Hp} : ∀ {vs : List V} {ds : List PyData} (n : Nat), DpAll K H vs ds → DpAll K H (vs.take n) (ds.take n)
  | _, _, 0, _ => by rw [List.take_zero, List.take_zero]; exact .nil
  | _, _, n + 1, .nil => .nil
  | _, _, n + 1, .cons x a => .cons x (dps_take n a)
theorem DkA.drop (n : Nat) (x : DkA K h l H vs ds) : DkA K h l H (vs.drop n) (ds.drop n) := dps_drop n x
theorem DkA.take (n : Nat) (x : DkA K h l H vs ds) : DkA K h l H (vs.take n) (ds.take n) := dps_take n x
theorem DkA.rep (x : DkA K h l H vs ds) : ∀ n : Nat, DkA K h l H (List.replicate n vs).flatten (List.replicate n ds).flatten
  | 0 => DpAll.nil
  | n + 1 => by
    rw [List.replicate_succ, List.replicate_succ, List.flatten_cons, List.flatten_cons]
    exact dps_app x (DkA.rep x n)
theorem DkA.mem (x : DkA K h l H vs ds) (hv : v ∈ vs) : ∃ d, d ∈ ds ∧ Dk K h l H v d := by
  obtain ⟨i, hi⟩ := List.getElem?_of_mem hv
  obtain ⟨d, hd, dx⟩ := dps_getV x hi
  exact ⟨d, List.mem_of_getElem? hd, dx⟩
/-- a tuple, a list that is new -/
theorem Dk.tup {p : Addr} (s : Src H h l) (hp : H p = none) (x : DkA K h l H vs ds) : Dk K h l (upd H p (.tup vs)) (.ref p) (.tuple ds) :=
  Dp.tup (.inl (.inl (cut_new s hp))) (x.same (same_new hp _))
theorem Dk.lst {p : Addr} (s : Src H h l) (hp : H p = none) (x : DkA K h l H vs ds) : Dk K h l (upd H p (.lst vs)) (.ref p) (.list ds) :=
  Dp.lst (SqL.of (cut_new s hp)) (x.same (same_new hp _))
/-- what stands in a kept tuple -/
theorem Dk.parts (x : Dk K h l H v (.tuple ds)) : ∃ a xs, v = .ref a ∧ SqT K H a xs ∧ DkA K h l H xs ds := by
  obtain ⟨a, xs, rfl, sx, al⟩ := dp_tup x
  exact ⟨a, xs, rfl, seqT cut_same sx, al⟩
/-- a tuple made of kept parts, wherever it stands -/
theorem Dk.tupS {a : Addr} (s : Src H h l) (e : SqT K H a vs) (x : DkA K h l H vs ds) : Dk K h l H (.ref a) (.tuple ds) := by
  refine Dp.tup ?_ x
  rcases e with e | e
  · obtain ⟨n1, n2⟩ := s.neT e
    rcases e with e | ⟨o, e⟩
    · exact .inl (.inl (by rw [cut_at n1 n2]; exact e))
    · exact .inl (.inr ⟨o, by rw [cut_at n1 n2]; exact e⟩)
  · exact .inr e
/-! ### displays -/
/-- behind H0 the reading te makes the data d -/
def Mks (K : PySem.W.Frag) (H0 : Hp) (te : TE) (σ : L2.St) (d : PyData) : Prop := ∀ (h l : Addr) (H : Hp) (Q : VK), Same H0 H → Src H h l → (∀ v H', Same H H' → Src H' h l → Dk K h l H' v d → Q v H') → te σ H Q
def MksA (K : PySem.W.Frag) (H0 : Hp) (t : TA) (σ : L2.St) (ds : List PyData) : Prop := ∀ (h l : Addr) (H : Hp) (Q : List V → Hp → Prop), Same H0 H → Src H h l → (∀ vs H', Same H H' → Src H' h l → DkA K h l H' vs ds → Q vs H') → t σ H Q
variable {σ : L2.St} {te : TE} {t : TA} {H0 : Hp}
theorem mks_int (i : Int) : Mks K H0 (tC (.int i)) σ (.int i) := fun _ _ H _ _ s k => k _ H (Same.refl H) s (.int i)
theorem mks_bl (b : Bool) : Mks K H0 (tC (.bl b)) σ (.bool b) := fun _ _ H _ _ s k => k _ H (Same.refl H) s (.bl b)
theorem mks_non : Mks K H0 (tC .non) σ .none := fun _ _ H _ _ s k => k _ H (Same.refl H) s .non
theorem mks_str (x : Str) : Mks K H0 (tC (.str x)) σ (.str x) := fun _ _ H _ _ s k => k _ H (Same.refl H) s (.str x)
theorem mks_neg (i : Int) : Mks K H0 (tUn (rU fun i => .int (-i)) (tC (.int i))) σ (.int (-i)) := fun _ _ H _ _ s k => ⟨i, rfl, k _ H (Same.refl H) s (.int _)⟩
theorem mks_len {i : Nat} {a : Addr} {xs : List V} (e : σ[i]? = some (some (.ref a))) (hx : SqT K H0 a xs) : Mks K H0 (tCB (rLenS K) (tCons (tVar i) tNil)) σ (.int (xs.length : Nat)) := fun _ _ H _ s0 s k =>
  ⟨_, e, a, xs, rfl, .inr (seqT s0 hx), k _ H (Same.refl H) s (.int _)⟩
theorem mks_nil : MksA K H0 tNil σ [] := fun _ _ H _ _ s k => k _ H (Same.refl H) s .nil
theorem mks_cons (a : Mks K H0 te σ d) (b : MksA K H0 t σ ds) : MksA K H0 (tCons te t) σ (d :: ds) := fun h l H Q s0 s k =>
  a h l H _ s0 s fun v H1 s1 S1 x => b h l H1 _ (s0.trans s1) S1 fun vs H2 s2 S2 y => k _ H2 (s1.trans s2) S2 (.cons (x.same s2) y)
theorem mks_tup (a : MksA K H0 t σ ds) (hl : ds.length ≤ 1000) : Mks K H0 (tTup t) σ (.tuple ds) := fun h l H Q s0 s k =>
  a h l H _ s0 s fun vs H1 s1 S1 x => ⟨by rw [x.len]; exact small1k hl, fun p hp => k _ _ (s1.trans (same_new hp _)) (S1.same (same_new hp _)) (Dk.tup S1 hp x)⟩
theorem mks_lst (a : MksA K H0 t σ ds) (hl : ds.length ≤ 1000) : Mks K H0 (tLst t) σ (.list ds) := fun h l H Q s0 s k =>
  a h l H _ s0 s fun vs H1 s1 S1 x => ⟨by rw [x.len]; exact small1k hl, fun p hp => k _ _ (s1.trans (same_new hp _)) (S1.same (same_new hp _)) (Dk.lst S1 hp x)⟩
theorem mks_repT {n : Int} {ds : List PyData} (a : Mks K H0 te σ (.tuple ds)) (h1 : ds ≠ []) (h2 : 2 ≤ n) (h3 : n ≤ 1000) (h4 : ds.length ≤ 1000) : Mks K H0 (tOp (rRepT K) te (tC (.int n))) σ (.tuple (List.replicate n.toNat ds).flatten) := fun h l H Q s0 s k =>
  a h l H _ s0 s fun v H1 s1 S1 x => by
    obtain ⟨a, xs, rfl, sx, dx⟩ := Dk.parts x
    have lx := dx.len
    exact ⟨a, n, xs, rfl, rfl, sx, fun z => h1 (by rw [z] at lx; exact List.length_eq_zero_iff.mp lx.symm), h2, h3, by omega, fun p hp => k _ _ (s1.trans (same_new hp _)) (S1.same (same_new hp _)) (Dk.tup S1 hp (dx.rep _))⟩
theorem mks_rep {n : Int} {ds : List PyData} (a : MksA K H0 t σ ds) (h2 : 0 ≤ n) (h3 : n ≤ 1000) (h4 : ds.length * n.toNat ≤ 1000) (h5 : ds.length ≤ 1000) : Mks K H0 (tOp rRep (tLst t) (tC (.int n))) σ (.list (List.replicate n.toNat ds).flatten) := fun h l H Q s0 s k =>
  a h l H _ s0 s fun vs H1 s1 S1 x => ⟨by rw [x.len]; exact small1k h5, fun p hp => ⟨p, n, vs, rfl, rfl, upd_same, by omega, by omega, by rw [x.len]; exact small1k h4, fun q hq => by
    have s2 := same_new hp (HO.lst vs)
    exact k _ _ (s1.trans (s2.trans (same_new hq _))) ((S1.same s2).same (same_new hq _)) (Dk.lst (S1.same s2) hq ((x.same s2).rep _))⟩⟩
theorem seq_lst {i : Nat} {b : TS} {D : Ends} {H : Hp} (S : Src H h l) (A : MksA K H t σ ds) (hl : ds.length ≤ 1000)
    (k : ∀ xs p H', Same H H' → Src H' h l → H' p = some (.lst xs) → DkA K h l H' xs ds → p ≠ h → p ≠ l → b D (σ.set i (some (.ref p))) H') : tSeq (tAsg (tLst t) (gName i)) b D σ H :=
  A h l H _ (Same.refl H) S fun xs H1 s1 S1 dx => ⟨by rw [dx.len]; exact small1k hl, fun p hp => k xs p _ (s1.trans (same_new hp _)) (S1.same (same_new hp _)) upd_same (dx.same (same_new hp _)) (S1.neN hp).1 (S1.neN hp).2⟩
theorem seq_cat {i : Nat} {b : TS} {D : Ends} {H : Hp} {p : Addr} {xs : List V} (S : Src H h l) (ei : σ[i]? = some (some (.ref p))) (ep : H p = some (.lst xs)) (dx : DkA K h l H xs es) (A : MksA K H t σ ds) (hl : ds.length ≤ 1000) (hl2 : es.length ≤ 1000)
    (k : ∀ ys q H', Same H H' → Src H' h l → H' q = some (.lst ys) → DkA K h l H' ys (es ++ ds) → q ≠ h → q ≠ l → b D (σ.set i (some (.ref q))) H') : tSeq (tAsg (tOp rCat (tVar i) (tLst t)) (gName i)) b D σ H :=
  ⟨_, ei, A h l H _ (Same.refl H) S fun ys H1 s1 S1 dy => ⟨by rw [dy.len]; exact small1k hl, fun q hq => by
    have s2 := same_new hq (HO.lst ys)
    have lx := dx.len
    have ly := dy.len
    refine ⟨p, q, xs, ys, rfl, rfl, s2 _ _ (s1 _ _ ep), upd_same, ?_, fun r hr => ?_⟩
    · rw [lx, ly, sizeLine_eq]
      omega
    · have s3 := same_new hr (HO.lst (xs ++ ys))
      have sA := s1.trans (s2.trans s3)
      exact k (xs ++ ys) r _ sA ((S1.same s2).same s3) upd_same ((dx.same sA).app (dy.same (s2.trans s3))) ((S1.same s2).neN hr).1 ((S1.same s2).neN hr).2⟩⟩
theorem slA2 {a : Addr} {xs : List V} {lo hi : Option Int} {Q : VK} (ha : SqT K H a xs) (k : ∀ r H', Same H H' → SqT K H' r (cutV xs lo hi) → Q (.ref r) H') : rSlA K (.ref a) lo hi H Q :=
  slA_ok ha (fun z => by unfold cutV; rw [z.1, z.2, List.drop_zero, Nat.sub_zero, List.take_length]) k
theorem cutV_take (xs : List V) {n : Nat} (hn : n ≤ xs.length) : cutV xs none (some (n : Int)) = xs.take n := by
  unfold cutV
  rw [HT.sIx_none, HT.sIx_nat, List.drop_zero, Nat.sub_zero, Nat.min_eq_left hn]
theorem cutV_drop (xs : List V) (n : Nat) : cutV xs (some (n : Int)) none = xs.drop n := by
  unfold cutV
  rw [HT.sIx_none, HT.sIx_nat]
  rcases Nat.le_total n xs.length with h | h
  · rw [Nat.min_eq_left h, List.take_of_length_le (by rw [List.length_drop]; omega)]
  · rw [Nat.min_eq_right h, List.drop_of_length_le (Nat.le_refl _), List.drop_of_length_le h, List.take_nil]
theorem cutV_last (xs : List V) (hn : 0 < xs.length) : cutV xs none (some (-1)) = xs.take (xs.length - 1) := by
  unfold cutV
  have e : HT.sIx xs.length xs.length (some (-1)) = xs.length - 1 := by
    show (if (-1 : Int) < 0 then ((-1 : Int) + (xs.length : Int)).toNat else min (-1 : Int).toNat xs.length) = xs.length - 1
    rw [if_pos (by decide)]
    omega
  rw [HT.sIx_none, e, List.drop_zero, Nat.sub_zero]
theorem atI_last {α : Type} {xs : List α} {x : α} (h : xs[xs.length - 1]? = some x) (hn : 0 < xs.length) : atI xs (-1) = some x := by
  unfold atI ixN
  rw [if_neg (by decide)]
  rw [if_pos (by omega)]
  show xs[((-1 : Int) + (xs.length : Int)).toNat]? = some x
  rw [show ((-1 : Int) + (xs.length : Int)).toNat = xs.length - 1 by omega]
  exact h
end
section
variable {X : Cx} (K : PySem.W.Frag)
theorem k_repT (e : X.K = K := by rfl) : OpR X (binaryOp .Mult) (rRepT K) := by subst e; exact op_repT
end
end WS
namespace WS
open PySem L2
def top (i : Nat) : Stmt := PySem.Challenge.pw_whichstand_k01_tables_refused.main.body.getD i (.Pass ⟨0, 0, 0, 0⟩)
abbrev s_is_below : Stmt := top 4
abbrev N_is_below : List Str := ["value", "limit"]
abbrev P_is_below : List Str := ["value", "limit"]
theorem sc_is_below : FnScope N_is_below P_is_below (defScope s_is_below) := ⟨rfl, rfl, rfl, by decide +kernel, rfl, by decide +kernel, by decide +kernel⟩
abbrev s_Machine_init : Stmt := inClass (top 9) 0
abbrev N_Machine_init : List Str := ["self", "table"]
abbrev P_Machine_init : List Str := ["self", "table"]
theorem sc_Machine_init : FnScope N_Machine_init P_Machine_init (defScope s_Machine_init) := ⟨rfl, rfl, rfl, by decide +kernel, rfl, by decide +kernel, by decide +kernel⟩
abbrev s_Machine_len : Stmt := inClass (top 9) 1
abbrev N_Machine_len : List Str := ["self"]
abbrev P_Machine_len : List Str := ["self"]
theorem sc_Machine_len : FnScope N_Machine_len P_Machine_len (defScope s_Machine_len) := ⟨rfl, rfl, rfl, by decide +kernel, rfl, by decide +kernel, by decide +kernel⟩
abbrev s_Machine_eq : Stmt := inClass (top 9) 2
abbrev N_Machine_eq : List Str := ["self", "other"]
abbrev P_Machine_eq : List Str := ["self", "other"]
theorem sc_Machine_eq : FnScope N_Machine_eq P_Machine_eq (defScope s_Machine_eq) := ⟨rfl, rfl, rfl, by decide +kernel, rfl, by decide +kernel, by decide +kernel⟩
abbrev s_Machine_table : Stmt := inClass (top 9) 3
abbrev N_Machine_table : List Str := ["self"]
abbrev P_Machine_table : List Str := ["self"]
theorem sc_Machine_table : FnScope N_Machine_table P_Machine_table (defScope s_Machine_table) := ⟨rfl, rfl, rfl, by decide +kernel, rfl, by decide +kernel, by decide +kernel⟩
abbrev s_Machine_letters : Stmt := inClass (top 9) 4
abbrev N_Machine_letters : List Str := ["self"]
abbrev P_Machine_letters : List Str := ["self"]
theorem sc_Machine_letters : FnScope N_Machine_letters P_Machine_letters (defScope s_Machine_letters) := ⟨rfl, rfl, rfl, by decide +kernel, rfl, by decide +kernel, by decide +kernel⟩
abbrev s__check_table : Stmt := top 10
abbrev N__check_table : List Str := ["value", "index", "steps"]
abbrev P__check_table : List Str := ["value"]
theorem sc__check_table : FnScope N__check_table P__check_table (defScope s__check_table) := ⟨rfl, rfl, rfl, by decide +kernel, rfl, by decide +kernel, by decide +kernel⟩
abbrev s__is_table_row : Stmt := top 11
abbrev N__is_table_row : List Str := ["value", "stands", "step"]
abbrev P__is_table_row : List Str := ["value", "stands"]
theorem sc__is_table_row : FnScope N__is_table_row P__is_table_row (defScope s__is_table_row) := ⟨rfl, rfl, rfl, by decide +kernel, rfl, by decide +kernel, by decide +kernel⟩
abbrev s__is_step : Stmt := top 12
abbrev N__is_step : List Str := ["value", "stands"]
abbrev P__is_step : List Str := ["value", "stands"]
theorem sc__is_step : FnScope N__is_step P__is_step (defScope s__is_step) := ⟨rfl, rfl, rfl, by decide +kernel, rfl, by decide +kernel, by decide +kernel⟩
abbrev s__law_mix : Stmt := top 14
abbrev N__law_mix : List Str := ["_law_script", "_law_seed", "_law_state", "_law_cell"]
abbrev P__law_mix : List Str := ["_law_script", "_law_seed"]
theorem sc__law_mix : FnScope N__law_mix P__law_mix (defScope s__law_mix) := ⟨rfl, rfl, rfl, by decide +kernel, rfl, by decide +kernel, by decide +kernel⟩
abbrev s__law_next : Stmt := top 15
abbrev N__law_next : List Str := ["_law_h", "_law_cap", "_law_cell"]
abbrev P__law_next : List Str := ["_law_h", "_law_cap"]
theorem sc__law_next : FnScope N__law_next P__law_next (defScope s__law_next) := ⟨rfl, rfl, rfl, by decide +kernel, rfl, by decide +kernel, by decide +kernel⟩
abbrev s__law_alike : Stmt := top 16
abbrev N__law_alike : List Str := ["_law_found", "_law_due", "_law_k"]
abbrev P__law_alike : List Str := ["_law_found", "_law_due"]
theorem sc__law_alike : FnScope N__law_alike P__law_alike (defScope s__law_alike) := ⟨rfl, rfl, rfl, by decide +kernel, rfl, by decide +kernel, by decide +kernel⟩
abbrev s__law_pick : Stmt := top 17
abbrev N__law_pick : List Str := ["_law_h", "_law_things"]
abbrev P__law_pick : List Str := ["_law_h", "_law_things"]
theorem sc__law_pick : FnScope N__law_pick P__law_pick (defScope s__law_pick) := ⟨rfl, rfl, rfl, by decide +kernel, rfl, by decide +kernel, by decide +kernel⟩
abbrev s__law_table : Stmt := top 18
abbrev N__law_table : List Str := ["_law_h", "_law_many", "_law_letters", "_law_cap", "_law_lacks", "_law_near", "_law_rows", "_law_stand", "_law_row", "_law_letter", "_law_goal", "_law_sign"]
abbrev P__law_table : List Str := ["_law_h"]
theorem sc__law_table : FnScope N__law_table P__law_table (defScope s__law_table) := ⟨rfl, rfl, rfl, by decide +kernel, rfl, by decide +kernel, by decide +kernel⟩
abbrev s__law_step : Stmt := top 19
abbrev N__law_step : List Str := ["_law_thing", "_law_many", "_law_part"]
abbrev P__law_step : List Str := ["_law_thing", "_law_many"]
theorem sc__law_step : FnScope N__law_step P__law_step (defScope s__law_step) := ⟨rfl, rfl, rfl, by decide +kernel, rfl, by decide +kernel, by decide +kernel⟩
abbrev s__law_fault : Stmt := top 20
abbrev N__law_fault : List Str := ["_law_table_here", "_law_k", "_law_row", "_law_step_here"]
abbrev P__law_fault : List Str := ["_law_table_here"]
theorem sc__law_fault : FnScope N__law_fault P__law_fault (defScope s__law_fault) := ⟨rfl, rfl, rfl, by decide +kernel, rfl, by decide +kernel, by decide +kernel⟩
abbrev s__law_tried : Stmt := top 21
abbrev N__law_tried : List Str := ["_law_table_here", "_law_found", "error"]
abbrev P__law_tried : List Str := ["_law_table_here"]
theorem sc__law_tried : FnScope N__law_tried P__law_tried (defScope s__law_tried) := ⟨rfl, rfl, rfl, by decide +kernel, rfl, by decide +kernel, by decide +kernel⟩
abbrev s_law : Stmt := top 22
abbrev N_law : List Str := ["_law_script", "_law_h", "_law_turn", "_law_table_here", "_law_steps", "_law_odd", "_law_change", "_law_spot", "_law_row", "_law_at", "_law_found", "_law_fault_here", "_law_last"]
abbrev P_law : List Str := ["_law_script"]
theorem sc_law : FnScope N_law P_law (defScope s_law) := ⟨rfl, rfl, rfl, by decide +kernel, rfl, by decide +kernel, by decide +kernel⟩
local macro_rules | `(tactic| walk_at "rd1") => `(tactic| first
  | refine ⟨_, rfl, ?_⟩
  | refine ⟨_, _, rfl, rfl, ?_⟩
  | refine .inl ⟨_, rfl, ?_⟩
  | refine ⟨.inr ⟨by decide, by decide⟩, ?_⟩
  | refine ⟨by intro z; omega, ?_⟩)
local macro_rules | `(tactic| walk_at "rd") => `(tactic| repeat walk_at "rd1")
section
variable {P : Program} {w : World} {K : PySem.W.Frag} {mg : Str → Option Value} {base : Heap}
/-! ### is_below -/
def below (v : V) (n : Int) : Bool := match v with
  | .int i => decide (0 ≤ i) && decide (i < n)
  | _ => false
def spBelow (K : PySem.W.Frag) : Sp := fun vs H Q _ => ∃ (v : V) (t : String) (n : Int), vs = [v, .int n] ∧ AnyV K H v t ∧ Q (.bl (below v n)) H
theorem ok_is_below {f : Addr} {fd : FuncData} (F : Fun K "is_below" "is_below" s_is_below f fd) (B : Blt mg) : FnOk P w K mg base CX0 1 f fd P_is_below (spBelow K) := by
  refine F.ok sc_is_below (fun vs H Q E h => ?_) (fun cdv A outer s H vs Q E hr h => ?_)
  · obtain ⟨v, t, n, rfl, _⟩ := h
    rfl
  · obtain ⟨v, t, n, rfl, hv, k⟩ := h
    refine ⟨_, (pss_cons (ps_if (PW.pt (pw_or (pt_val (pe_callB (k_isi K) (by rfl) B.n_isinstance (by decide +kernel) (pa_cons (pv 0) (pa_cons (pe_bltn (v := .ty "bool") (u := .type "bool") (by rfl) B.n_bool (by decide +kernel) rfl) pa_nil)))) (pw_or1 (pt_not (pt_val (pe_callB (k_isi K) (by rfl) B.n_isinstance (by decide +kernel) (pa_cons (pv 0) (pa_cons (pe_bltn (v := .ty "int") (u := .type "int") (by rfl) B.n_int (by decide +kernel) rfl) pa_nil)))))))) (pss_one (ps_ret pe_bl)) pss_nil)
 (pss_one (ps_ret (pe_chain op_le op_lt pe_int (pv 0) (pv 1))))), ?_⟩
    obtain ⟨b1, b2, e1, e2, q1, q2⟩ : ∃ b1 b2 : Bool, kitB t "bool" = some b1 ∧ kitB t "int" = some b2 ∧ ((b1 || !b2) = true → below v n = false) ∧ ((b1 || !b2) = false → ∃ i, v = .int i) := by
      cases hv with
      | int i => exact ⟨false, true, by decide +kernel, by decide +kernel, fun q => (nomatch q), fun _ => ⟨i, rfl⟩⟩
      | non => exact ⟨false, false, by decide +kernel, by decide +kernel, fun _ => rfl, fun q => (nomatch q)⟩
      | bl b => exact ⟨true, true, by decide +kernel, by decide +kernel, fun _ => rfl, fun q => (nomatch q)⟩
      | str z => exact ⟨false, false, by decide +kernel, by decide +kernel, fun _ => rfl, fun q => (nomatch q)⟩
      | lst h => exact ⟨false, false, by decide +kernel, by decide +kernel, fun _ => rfl, fun q => (nomatch q)⟩
      | tup h => exact ⟨false, false, by decide +kernel, by decide +kernel, fun _ => rfl, fun q => (nomatch q)⟩
      | dct h => exact ⟨false, false, by decide +kernel, by decide +kernel, fun _ => rfl, fun q => (nomatch q)⟩
    refine ⟨_, rfl, _, _, _, _, b1, rfl, .ty "bool", hv.ty, kit_any e1, b1, rfl, ?_⟩
    cases b1 with
    | true => exact iteT (by rw [q1 rfl] at k; exact k)
    | false =>
      refine iteF ⟨_, rfl, _, _, _, _, b2, rfl, .ty "int", hv.ty, kit_any e2, b2, rfl, ?_⟩
      cases b2 with
      | false => exact iteT (by rw [q1 rfl] at k; exact k)
      | true =>
        obtain ⟨i, rfl⟩ := q2 rfl
        refine iteF ⟨_, rfl, _, _, rfl, rfl, _, rfl, ?_⟩
        by_cases c : (0 : Int) ≤ i
        · rw [decide_eq_true c]
          refine iteT ⟨_, rfl, _, _, rfl, rfl, ?_⟩
          have e : below (.int i) n = decide (i < n) := by simp [below, c]
          rw [e] at k
          exact k
        · rw [decide_eq_false c]
          refine iteF ?_
          have e : below (.int i) n = false := by simp [below, c]
          rw [e] at k
          exact k
/-! ### _is_step, _is_table_row -/
theorem below_d {H : Hp} {v : V} {d : PyData} (h : Dp K H v d) (n : Int) : below v n = belowD n d := by
  cases h <;> rfl
def spStep (K : PySem.W.Frag) : Sp := fun vs H Q _ => ∃ (v : V) (d : PyData) (n : Int), vs = [v, .int n] ∧ Dp K H v d ∧ Q (.bl (stepOk n d)) H
theorem ok_is_step {f : Addr} {fd : FuncData} (F : Fun K "_is_step" "_is_step" s__is_step f fd) (B : Blt mg) {tk : Tok} (g_WRITTEN_LETTERS : mg "WRITTEN_LETTERS" = some (.int 4 tk))
    (G_is_below : DefK P w K mg base CX0 1 "is_below" P_is_below (spBelow K)) : FnOk P w K mg base CX0 2 f fd P__is_step (spStep K) := by
  refine F.ok sc__is_step (fun vs H Q E h => ?_) (fun cdv A outer s H vs Q E hr h => ?_)
  · obtain ⟨v, d, n, rfl, _⟩ := h
    rfl
  · obtain ⟨v, d, n, rfl, dv, k⟩ := h
    refine ⟨_, (pss_cons (ps_if (pt_cmpR op_isN (pv 0) pe_non (nomark _)) (pss_one (ps_ret pe_bl)) pss_nil)
 (pss_cons (ps_if (PW.pt (pw_or (pt_not (pt_val (pe_callB (k_isi K) (by rfl) B.n_isinstance (by decide +kernel) (pa_cons (pv 0) (pa_cons (pe_bltn (v := .ty "tuple") (u := .type "tuple") (by rfl) B.n_tuple (by decide +kernel) rfl) pa_nil))))) (pw_or1 (pt_cmpR op_ne (pe_callB (k_len K) (by rfl) B.n_len boot_len (pa_cons (pv 0) pa_nil)) pe_int (nomark _))))) (pss_one (ps_ret pe_bl)) pss_nil)
 (pss_one (ps_ret (pe_and (pe_def G_is_below (hr.mono (by omega)) (by rfl) (pa_cons (pe_ix (k_ixT K) (pv 0) pe_int (fun _ _ => rfl)) (pa_cons (pv 1) pa_nil))) (pe_one (pe_def G_is_below (hr.mono (by omega)) (by rfl) (pa_cons (pe_ix (k_ixT K) (pv 0) pe_int (fun _ _ => rfl)) (pa_cons (pe_gI (by rfl) g_WRITTEN_LETTERS) pa_nil))))))))), ?_⟩
    refine ⟨_, rfl, rfl, _, rfl, ?_⟩
    by_cases hv : v = .non
    · subst hv
      cases dv
      rw [decide_eq_true rfl]
      exact k
    rw [decide_eq_false hv]
    have tv := dp_ty dv
    obtain ⟨e1, e2⟩ | ⟨ds, rfl⟩ : (kitB (tyD d) "tuple" = some false ∧ stepOk n d = false) ∨ ∃ ds, d = .tuple ds := by
      cases dv with
      | non => exact absurd rfl hv
      | bl b => exact .inl ⟨(show kitB "bool" "tuple" = some false by decide +kernel), rfl⟩
      | int b => exact .inl ⟨(show kitB "int" "tuple" = some false by decide +kernel), rfl⟩
      | str b => exact .inl ⟨(show kitB "str" "tuple" = some false by decide +kernel), rfl⟩
      | lst _ _ => exact .inl ⟨(show kitB "list" "tuple" = some false by decide +kernel), rfl⟩
      | tup _ _ => exact .inr ⟨_, rfl⟩
    · refine ⟨_, rfl, _, _, _, _, false, rfl, .ty _, tv.ty, kit_any e1, _, rfl, ?_⟩
      rw [e2] at k
      exact k
    · obtain ⟨a, xs, rfl, sx, al⟩ := dp_tup dv
      have lx := dps_len al
      refine ⟨_, rfl, _, _, _, _, true, rfl, .ty _, tv.ty, kit_any (show kitB "tuple" "tuple" = some true by decide +kernel), _, rfl, _, rfl, a, xs, rfl, .inr sx, rfl, _, rfl, ?_⟩
      by_cases h2 : xs.length = 2
      · have e : decide (V.int ((xs.length : Nat) : Int) = V.int 2) = true := decide_eq_true (by rw [h2]; rfl)
        rw [e]
        obtain ⟨d1, d2, rfl⟩ := len_two (lx.symm.trans h2)
        cases al with
        | cons q1 al =>
          cases al with
          | cons q2 al =>
            cases al
            obtain ⟨t1, a1⟩ := dp_any q1
            obtain ⟨t2, a2⟩ := dp_any q2
            rw [stepOk_two] at k
            refine ⟨_, rfl, a, _, _, _, rfl, rfl, sx, rfl, _, rfl, _, t1, n, rfl, a1, _, rfl, ?_⟩
            rw [below_d q1]
            cases eb : belowD n d1 with
            | false =>
              rw [eb] at k
              exact k
            | true =>
              rw [eb] at k
              refine ⟨_, rfl, a, _, _, _, rfl, rfl, sx, rfl, _, t2, 4, rfl, a2, ?_⟩
              rw [below_d q2]
              exact k
      · have e : decide (V.int ((xs.length : Nat) : Int) = V.int 2) = false := decide_eq_false (fun z => h2 (by have := V.int.inj z; omega))
        rw [e]
        rw [stepOk_long (fun z => h2 (lx.trans z))] at k
        exact k
def spRowOk (K : PySem.W.Frag) : Sp := fun vs H Q _ => ∃ (v : V) (d : PyData) (n : Int), vs = [v, .int n] ∧ Dp K H v d ∧ ∀ H', Same H H' → Q (.bl (rowOk n d)) H'
theorem ok_is_table_row {f : Addr} {fd : FuncData} (F : Fun K "_is_table_row" "_is_table_row" s__is_table_row f fd) (B : Blt mg) {lc : Addr} (g_LETTER_COUNTS : mg "LETTER_COUNTS" = some (.ref lc)) (hLC : ∀ H : Hp, SqT K H lc [.int 2, .int 3])
    (G__is_step : DefK P w K mg base CX0 2 "_is_step" P__is_step (spStep K)) : FnOk P w K mg base CX0 3 f fd P__is_table_row (spRowOk K) := by
  refine F.ok sc__is_table_row (fun vs H Q E h => ?_) (fun cdv A outer s H vs Q E hr h => ?_)
  · obtain ⟨v, d, n, rfl, _⟩ := h
    rfl
  · obtain ⟨v, d, n, rfl, dv, k⟩ := h
    refine ⟨_, (pss_cons (ps_if (PW.pt (pw_or (pt_not (pt_val (pe_callB (k_isi K) (by rfl) B.n_isinstance (by decide +kernel) (pa_cons (pv 0) (pa_cons (pe_bltn (v := .ty "tuple") (u := .type "tuple") (by rfl) B.n_tuple (by decide +kernel) rfl) pa_nil))))) (pw_or1 (pt_cmpR (k_notIn K) (pe_callB (k_len K) (by rfl) B.n_len boot_len (pa_cons (pv 0) pa_nil)) (pe_gR (by rfl) g_LETTER_COUNTS) (by rfl))))) (pss_one (ps_ret pe_bl)) pss_nil)
 (pss_one (ps_ret (pe_callB (k_all K rfl) (by rfl) B.n_all (by decide +kernel) (pa_cons (pe_lc (own := ([("step", 2)] : List (Str × Nat))) (g := gName 2) (tt := tYes) rfl sc__is_table_row.nd (k_pit K (pv 0)) (blkOk_by (own := ([("step", 2)] : List (Str × Nat))) (N := N__is_table_row) (sc := defScope s__is_table_row) (by decide +kernel)) (fun _ _ _ _ _ => by exact (pg_name (i := 2) sc__is_table_row.nd rfl (Or.inl rfl))) (fun _ _ _ _ _ => by exact pts_nil) (fun _ _ _ _ _ => by exact (pe_def G__is_step (hr.mono (by omega)) (by rfl) (pa_cons (pv 2) (pa_cons (pv 1) pa_nil))))) pa_nil))))), ?_⟩
    have tv := dp_ty dv
    obtain ⟨e1, e2⟩ | ⟨ds, rfl⟩ : (kitB (tyD d) "tuple" = some false ∧ rowOk n d = false) ∨ ∃ ds, d = .tuple ds := by
      cases dv with
      | non => exact .inl ⟨(show kitB "NoneType" "tuple" = some false by decide +kernel), rfl⟩
      | bl b => exact .inl ⟨(show kitB "bool" "tuple" = some false by decide +kernel), rfl⟩
      | int b => exact .inl ⟨(show kitB "int" "tuple" = some false by decide +kernel), rfl⟩
      | str b => exact .inl ⟨(show kitB "str" "tuple" = some false by decide +kernel), rfl⟩
      | lst _ _ => exact .inl ⟨(show kitB "list" "tuple" = some false by decide +kernel), rfl⟩
      | tup _ _ => exact .inr ⟨_, rfl⟩
    · refine ⟨_, rfl, _, _, _, _, false, rfl, .ty _, tv.ty, kit_any e1, _, rfl, ?_⟩
      have k' := k H (Same.refl H)
      rw [e2] at k'
      exact k'
    · obtain ⟨a, xs, rfl, sx, al⟩ := dp_tup dv
      have lx := dps_len al
      have inv : inV (.int ((xs.length : Nat) : Int)) [.int 2, .int 3] = (decide (ds.length = 2) || decide (ds.length = 3)) := by
        rw [Bool.eq_iff_iff]
        simp [inV, eqV, lx]
        omega
      refine ⟨_, rfl, _, _, _, _, true, rfl, .ty _, tv.ty, kit_any (show kitB "tuple" "tuple" = some true by decide +kernel), _, rfl, _, rfl, a, xs, rfl, .inr sx, lc, _, rfl, .inr (hLC H), rfl, rfl, _, rfl, ?_⟩
      rw [if_pos rfl, inv]
      cases eb : (decide (ds.length = 2) || decide (ds.length = 3)) with
      | false =>
        have k' := k H (Same.refl H)
        have er : rowOk n (.tuple ds) = false := by
          show ((decide (ds.length = 2) || decide (ds.length = 3)) && ds.all (stepOk n)) = false
          rw [eb]
          rfl
        rw [er] at k'
        exact k'
      | true =>
        refine ⟨_, rfl, a, rfl, ⟨_, sx⟩, fun D hD => lc_tup (K := K) (a := a) (xs := xs) (fun i H' => Same H H' ∧ H' D = some (.lst (((ds.take i).map (stepOk n)).map V.bl))) ⟨same_new hD _, upd_same⟩ (fun i H' _ z => seqT z.1 sx) ?_ ?_⟩
        · rintro i x H1 hx ⟨s1, eD⟩
          obtain ⟨d, hd, dx⟩ := dps_getV (dps_same s1 al) hx
          refine ⟨rfl, _, rfl, _, rfl, x, d, n, rfl, dx, _, eD, ?_, ?_, ?_⟩
          · rw [List.length_map, List.length_map, List.length_take]
            have : ds.length = 2 ∨ ds.length = 3 := by simpa using eb
            exact small1000 (by omega)
          · intro b o e
            rw [upd_ne (ne_of_none e hD)]
            exact s1 b o e
          · rw [upd_same, take_more hd, List.map_append, List.map_append]
            rfl
        · rintro H1 ⟨s1, eD⟩
          rw [lx, List.take_length] at eD
          refine ⟨D, _, rfl, SqL.of eD, ?_⟩
          have er : rowOk n (.tuple ds) = (ds.map (stepOk n)).all id := by
            show ((decide (ds.length = 2) || decide (ds.length = 3)) && ds.all (stepOk n)) = _
            rw [eb, List.all_map]
            rfl
          have k' := k H1 s1
          rw [er] at k'
          exact k'
/-! ### _check_table, of anything -/
def idxV : Option Nat → V
  | none => .non
  | some i => .int (i : Nat)
theorem idx_ok {z : Option Nat} (h : ∀ i, z = some i → i < 64) : Idx (idxV z) := by
  cases z with
  | none => exact .inl rfl
  | some i => exact .inr ⟨i, h i rfl, rfl⟩
def rowLen : PyData → Nat
  | .tuple ds => ds.length
  | _ => 0
/-- the row d of a table of n rows, the first of which is d0, is none -/
def badRow (n : Int) (d0 d : PyData) : Bool := !rowOk n d || decide (rowLen d ≠ rowLen d0)
def rowsFault (ds : List PyData) : Option Nat := ds.findIdx? (badRow ds.length (ds.headD .none))
/-- what is told of a table: none is good; else which row -/
def tabFault : PyData → Option (Option Nat)
  | .tuple ds => if 1 ≤ ds.length ∧ ds.length ≤ 6 then (rowsFault ds).map some else some none
  | _ => some none
theorem findIdx_at {α : Type} {p : α → Bool} : ∀ {l : List α} {i : Nat} {x : α}, l[i]? = some x → p x = true → (∀ j y, j < i → l[j]? = some y → p y = false) → l.findIdx? p = some i
  | [], i, x, h, _, _ => by simp at h
  | a :: l, 0, x, h, hp, _ => by
    have e : a = x := Option.some.inj h
    subst e
    simp [List.findIdx?_cons, hp]
  | a :: l, i + 1, x, h, hp, hg => by
    have h0 : p a = false := hg 0 a (Nat.succ_pos i) rfl
    have ih := findIdx_at (l := l) (i := i) (x := x) (by simpa using h) hp (fun j y hj hy => hg (j + 1) y (by omega) (by simpa using hy))
    simp [List.findIdx?_cons, h0, ih]
theorem findIdx_no {α : Type} {p : α → Bool} {l : List α} (h : ∀ (j : Nat) y, l[j]? = some y → p y = false) : l.findIdx? p = none := by
  rw [List.findIdx?_eq_none_iff]
  intro x hx
  obtain ⟨j, hj⟩ := List.getElem?_of_mem hx
  exact h j x hj
theorem rowOk_tup {n : Int} {d : PyData} (h : rowOk n d = true) : ∃ ds, d = .tuple ds := by
  cases d <;> first | exact ⟨_, rfl⟩ | exact absurd h (by simp [rowOk])
def spTabX (K : PySem.W.Frag) (CB : Addr) : Sp := fun vs H Q E => ∃ (v : V) (d : PyData), vs = [v] ∧ Dp K H v d ∧ (tabFault d = none → ∀ H', Same H H' → Q .non H') ∧
  ∀ z, tabFault d = some z → ∀ H' dx, Same H H' → H' dx = none → E (.ref CB) (some dx) (upd H' dx (.xd [("index", idxV z)]))
theorem ok_check_tableX {f : Addr} {fd : FuncData} (F : Fun K "_check_table" "_check_table" s__check_table f fd) (B : Blt mg) {tk : Tok} (g_MOST_STANDS : mg "MOST_STANDS" = some (.int 6 tk))
    (G__is_table_row : DefK P w K mg base CX0 3 "_is_table_row" P__is_table_row (spRowOk K)) {CB fB : Addr} (x_BadTable : PySem.BadX.BadTxt P K mg "BadTable" "BadTable.__init__" CB fB) : FnOk P w K mg base (L2.CX P w) 4 f fd P__check_table (spTabX K CB) := by
  refine F.okX sc__check_table (fun vs H Q E h => ?_) (fun cdv A outer s H vs Q E hr h => ?_)
  · obtain ⟨v, d, rfl, _⟩ := h
    rfl
  · obtain ⟨v, d, rfl, dv, k, kF⟩ := h
    refine ⟨_, (pss_cons (ps_if (PW.pt (pw_or (pt_not (pt_val (pe_callB (k_isi K) (by rfl) B.n_isinstance (by decide +kernel) (pa_cons (pv 0) (pa_cons (pe_bltn (v := .ty "tuple") (u := .type "tuple") (by rfl) B.n_tuple (by decide +kernel) rfl) pa_nil))))) (pw_or1 (pt_not (pt_chain op_le op_le pe_int (pe_callB (k_len K) (by rfl) B.n_len boot_len (pa_cons (pv 0) pa_nil)) (pe_gI (by rfl) g_MOST_STANDS)))))) (pss_one (ps_raiseBad rfl x_BadTable (hr.mono (by omega : 1 ≤ _)) (takes_of rfl rfl rfl rfl) (by exact (pa_cons pe_non pa_nil)))) pss_nil)
 (pss_one (ps_for (passes_of rfl) rfl (EnT.pi_enumT (by rfl) B.n_enumerate (pa_cons (pv 0) pa_nil)) (k_tgs (n := 2) K rfl (pgs_cons (pg_name (i := 1) sc__check_table.nd rfl (Or.inl rfl)) (pgs_cons (pg_name (i := 2) sc__check_table.nd rfl (Or.inl rfl)) pgs_nil)))
 (pss_one (ps_if (PW.pt (pw_or (pt_not (pt_val (pe_def G__is_table_row (hr.mono (by omega)) (by rfl) (pa_cons (pv 2) (pa_cons (pe_callB (k_len K) (by rfl) B.n_len boot_len (pa_cons (pv 0) pa_nil)) pa_nil))))) (pw_or1 (pt_cmpR op_ne (pe_callB (k_len K) (by rfl) B.n_len boot_len (pa_cons (pv 2) pa_nil)) (pe_callB (k_len K) (by rfl) B.n_len boot_len (pa_cons (pe_ix (k_ixT K) (pv 0) pe_int (fun _ _ => rfl)) pa_nil)) (nomark _))))) (pss_one (ps_raiseBad rfl x_BadTable (hr.mono (by omega : 1 ≤ _)) (takes_of rfl rfl rfl rfl) (by exact (pa_cons (pv 1) pa_nil)))) pss_nil))))), ?_⟩
    have tv := dp_ty dv
    have H0 := Same.refl H
    obtain ⟨e1, e2⟩ | ⟨ds, rfl⟩ : (kitB (tyD d) "tuple" = some false ∧ tabFault d = some none) ∨ ∃ ds, d = .tuple ds := by
      cases dv with
      | non => exact .inl ⟨(show kitB "NoneType" "tuple" = some false by decide +kernel), rfl⟩
      | bl b => exact .inl ⟨(show kitB "bool" "tuple" = some false by decide +kernel), rfl⟩
      | int b => exact .inl ⟨(show kitB "int" "tuple" = some false by decide +kernel), rfl⟩
      | str b => exact .inl ⟨(show kitB "str" "tuple" = some false by decide +kernel), rfl⟩
      | lst _ _ => exact .inl ⟨(show kitB "list" "tuple" = some false by decide +kernel), rfl⟩
      | tup _ _ => exact .inr ⟨_, rfl⟩
    · exact ⟨_, rfl, _, _, _, _, false, rfl, .ty _, tv.ty, kit_any e1, _, rfl, _, rfl, .inl rfl, fun dx hx => kF none e2 H dx H0 hx⟩
    · obtain ⟨a, xs, rfl, sx, al⟩ := dp_tup dv
      have lx := dps_len al
      refine ⟨_, rfl, _, _, _, _, true, rfl, .ty _, tv.ty, kit_any (show kitB "tuple" "tuple" = some true by decide +kernel), _, rfl, _, rfl, a, xs, rfl, .inr sx, _, _, rfl, rfl, _, rfl, ?_⟩
      cases c1 : decide ((1 : Int) ≤ ((xs.length : Nat) : Int)) with
      | false =>
        have z : tabFault (.tuple ds) = some none := by
          have := of_decide_eq_false c1
          exact if_neg (by omega)
        exact ⟨_, rfl, _, rfl, .inl rfl, fun dx hx => kF none z H dx H0 hx⟩
      | true =>
        refine ⟨_, _, rfl, rfl, _, rfl, ?_⟩
        cases c2 : decide (((xs.length : Nat) : Int) ≤ 6) with
        | false =>
          have z : tabFault (.tuple ds) = some none := by
            have := of_decide_eq_false c2
            exact if_neg (by omega)
          exact ⟨_, rfl, .inl rfl, fun dx hx => kF none z H dx H0 hx⟩
        | true =>
          have lo := of_decide_eq_true c1
          have hi := of_decide_eq_true c2
          have ez : tabFault (.tuple ds) = (rowsFault ds).map some := if_pos (by omega)
          refine ⟨_, rfl, a, xs, rfl, sx, EnT.for_enT (K := K) (a := a) (xs := xs) (fun i σ H' => Same H H' ∧ (∀ (j : Nat) (d : PyData), j < i → ds[j]? = some d → badRow ds.length (ds.headD .none) d = false) ∧ ∃ u1 u2, σ = [some (.ref a), u1, u2])
            ⟨Same.refl H, fun j d hj => absurd hj (Nat.not_lt_zero j), none, none, rfl⟩ (fun i σ H' _ z => seqT z.1 sx) ?_ ?_⟩
          · rintro i x T σ H1 hx ⟨s1, good, u1, u2, rfl⟩ hT
            have s2 := s1.trans (same_new hT (HO.tup [V.int (i : Nat), x]))
            have eT : (upd H1 T (.tup [.int (i : Nat), x])) T = some (.tup [.int (i : Nat), x]) := upd_same
            revert s2 eT
            generalize upd H1 T (.tup [.int (i : Nat), x]) = H2
            intro s2 eT
            obtain ⟨d, hd, dx⟩ := dps_getV (dps_same s2 al) hx
            have hil : i < ds.length := (List.getElem?_eq_some_iff.mp hd).1
            have bad : badRow ds.length (ds.headD .none) d = true → ∀ H' e, Same H H' → H' e = none → E (.ref CB) (some e) (upd H' e (.xd [("index", .int (i : Nat))])) := fun hb H' e => by
              refine kF (some i) ?_ H' e
              rw [ez]
              have : rowsFault ds = some i := findIdx_at hd hb good
              rw [this]
              rfl
            refine ⟨T, _, rfl, SqT.of eT, rfl, _, _, rfl, _, _, rfl, rfl, ?_⟩
            refine ⟨_, rfl, _, rfl, a, xs, rfl, .inr (seqT s2 sx), x, d, _, rfl, dx, fun H3 s3 => ⟨_, rfl, ?_⟩⟩
            rw [lx]
            cases er : rowOk ds.length d with
            | false =>
              exact ⟨_, rfl, _, rfl, .inr ⟨i, by omega, rfl⟩, fun e he => bad (by unfold badRow; rw [er]; rfl) H3 e (s2.trans s3) he⟩
            | true =>
              obtain ⟨rs, rfl⟩ := rowOk_tup er
              obtain ⟨rs0, h0⟩ : ∃ rs0, ds[0]? = some (.tuple rs0) := by
                cases i with
                | zero => exact ⟨rs, hd⟩
                | succ i =>
                  obtain ⟨d0, h0⟩ : ∃ d0, ds[0]? = some d0 := ⟨_, List.getElem?_eq_getElem (by omega)⟩
                  have g0 := good 0 d0 (Nat.succ_pos i) h0
                  cases e0 : rowOk ds.length d0 with
                  | false => unfold badRow at g0; rw [e0] at g0; exact absurd g0 (by simp)
                  | true =>
                    obtain ⟨rs0, rfl⟩ := rowOk_tup e0
                    exact ⟨rs0, h0⟩
              have hh : ds.headD .none = .tuple rs0 := by
                cases ds with
                | nil => cases h0
                | cons a l => exact Option.some.inj h0
              obtain ⟨b, ys, rfl, sb, bl⟩ := dp_tup dx
              obtain ⟨x0, hx0, dx0⟩ := dps_get (dps_same s2 al) h0
              obtain ⟨b0, ys0, rfl, sb0, bl0⟩ := dp_tup dx0
              have lb := dps_len bl
              have lb0 := dps_len bl0
              have eb : badRow ds.length (ds.headD .none) (.tuple rs) = decide (rs.length ≠ rs0.length) := by
                unfold badRow
                rw [er, hh]
                rfl
              refine ⟨_, rfl, b, ys, rfl, .inr (seqT s3 sb), _, rfl, a, xs, _, _, rfl, rfl, seqT (s2.trans s3) sx, atI_nat hx0, b0, ys0, rfl, .inr (seqT s3 sb0), rfl, _, rfl, ?_⟩
              by_cases q : rs.length = rs0.length
              · rw [decide_eq_true (by rw [lb, lb0, q])]
                refine ⟨s2.trans s3, fun j d hj hd' => ?_, _, _, rfl⟩
                rcases Nat.lt_or_eq_of_le (Nat.le_of_lt_succ hj) with hj | rfl
                · exact good j d hj hd'
                · rw [hd] at hd'
                  cases hd'
                  rw [eb]
                  exact decide_eq_false (fun z => z q)
              · rw [decide_eq_false (by rw [lb, lb0]; exact fun z => q (by first | exact Int.ofNat.inj z | exact Int.ofNat.inj (L2.V.int.inj z) | (trace_state; omega)))]
                exact ⟨_, rfl, _, rfl, .inr ⟨i, by omega, rfl⟩, fun e' he => bad (by rw [eb]; exact decide_eq_true q) H3 e' (s2.trans s3) he⟩
          · rintro σ H1 ⟨s1, good, u1, u2, rfl⟩
            refine k ?_ H1 s1
            rw [ez]
            have : rowsFault ds = none := findIdx_no (fun j d hd => good j d (by rw [lx]; exact (List.getElem?_eq_some_iff.mp hd).1) hd)
            rw [this]
            rfl
/-! ### what is told of no fault is a table -/
theorem stepOk_of {n : Nat} {d : PyData} (h : stepOk n d = true) : ∃ s : Stp, d = stepD s ∧ ∀ a w, s = some (a, w) → a < n ∧ w < 4 := by
  cases d with
  | none => exact ⟨none, rfl, fun _ _ e => by cases e⟩
  | tuple ds =>
    cases ds with
    | nil => exact absurd h (by simp [stepOk])
    | cons x r =>
      cases r with
      | nil => exact absurd h (by simp [stepOk])
      | cons y r =>
        cases r with
        | cons z r => exact absurd h (by simp [stepOk])
        | nil =>
          have h' : (belowD n x && belowD 4 y) = true := h
          rw [Bool.and_eq_true] at h'
          obtain ⟨h1, h2⟩ := h'
          obtain ⟨i, rfl⟩ : ∃ i, x = .int i := by cases x <;> first | exact ⟨_, rfl⟩ | exact absurd h1 (by simp [belowD])
          obtain ⟨j, rfl⟩ : ∃ i, y = .int i := by cases y <;> first | exact ⟨_, rfl⟩ | exact absurd h2 (by simp [belowD])
          simp [belowD] at h1 h2
          refine ⟨some (i.toNat, j.toNat), ?_, fun a w e => ?_⟩
          · show PyData.tuple [.int i, .int j] = .tuple [.int (i.toNat : Nat), .int (j.toNat : Nat)]
            rw [Int.toNat_of_nonneg h1.1, Int.toNat_of_nonneg h2.1]
          · cases e
            omega
  | _ => exact absurd h (by simp [stepOk])
theorem rowOk_of {n : Nat} {d : PyData} (h : rowOk n d = true) : ∃ r : List Stp, d = rowD r ∧ (r.length = 2 ∨ r.length = 3) ∧ ∀ a w, some (a, w) ∈ r → a < n ∧ w < 4 := by
  obtain ⟨ds, rfl⟩ := rowOk_tup h
  have h' : ((decide (ds.length = 2) || decide (ds.length = 3)) && ds.all (stepOk n)) = true := h
  rw [Bool.and_eq_true, List.all_eq_true] at h'
  obtain ⟨h1, h2⟩ := h'
  have key : ∀ l : List PyData, (∀ x ∈ l, stepOk n x = true) → ∃ r : List Stp, l = r.map stepD ∧ ∀ a w, some (a, w) ∈ r → a < n ∧ w < 4 := by
    intro l
    induction l with
    | nil => exact fun _ => ⟨[], rfl, fun _ _ e => by cases e⟩
    | cons x l ih =>
      intro hl
      obtain ⟨r, rfl, hr⟩ := ih fun y hy => hl y (List.mem_cons_of_mem _ hy)
      obtain ⟨s, rfl, hs⟩ := stepOk_of (hl x List.mem_cons_self)
      refine ⟨s :: r, rfl, fun a w e => ?_⟩
      rcases List.mem_cons.mp e with e | e
      · exact hs a w e.symm
      · exact hr a w e
  obtain ⟨r, rfl, hr⟩ := key ds h2
  refine ⟨r, rfl, ?_, hr⟩
  simpa using h1
theorem good_of {d : PyData} (h : tabFault d = none) : ∃ t m, Good t m ∧ d = tabD t := by
  cases d with
  | tuple ds =>
    have h0 : (if 1 ≤ ds.length ∧ ds.length ≤ 6 then (rowsFault ds).map some else some none) = none := h
    by_cases hl : 1 ≤ ds.length ∧ ds.length ≤ 6
    · rw [if_pos hl] at h0
      have h1 : rowsFault ds = none := by
        cases e : rowsFault ds with
        | none => rfl
        | some i => rw [e] at h0; cases h0
      have h2 : ∀ x ∈ ds, badRow ds.length (ds.headD .none) x = false := by
        have := List.findIdx?_eq_none_iff.mp h1
        exact fun x hx => by simpa using this x hx
      have h3 : ∀ x ∈ ds, rowOk ds.length x = true ∧ rowLen x = rowLen (ds.headD .none) := fun x hx => by
        have := h2 x hx
        unfold badRow at this
        simpa using this
      have key : ∀ l : List PyData, (∀ x ∈ l, rowOk ds.length x = true ∧ rowLen x = rowLen (ds.headD .none)) → ∃ t : Tab, l = t.map rowD ∧ ∀ r ∈ t, r.length = rowLen (ds.headD .none) ∧ (r.length = 2 ∨ r.length = 3) ∧ ∀ a w, some (a, w) ∈ r → a < ds.length ∧ w < 4 := by
        intro l
        induction l with
        | nil => exact fun _ => ⟨[], rfl, fun _ e => by cases e⟩
        | cons x l ih =>
          intro hx
          obtain ⟨t, rfl, ht⟩ := ih fun y hy => hx y (List.mem_cons_of_mem _ hy)
          obtain ⟨k1, k2⟩ := hx x List.mem_cons_self
          obtain ⟨r, rfl, r1, r2⟩ := rowOk_of k1
          refine ⟨r :: t, rfl, fun q e => ?_⟩
          rcases List.mem_cons.mp e with rfl | e
          · exact ⟨by rw [← k2]; simp [rowD, rowLen], r1, r2⟩
          · exact ht q e
      obtain ⟨t, ht, hr⟩ := key ds h3
      have lt : ds.length = t.length := by rw [ht, List.length_map]
      have ne : t ≠ [] := fun z => by rw [z] at lt; have q : ds.length = 0 := lt; omega
      obtain ⟨r0, t', rfl⟩ := List.exists_cons_of_ne_nil ne
      refine ⟨r0 :: t', rowLen (ds.headD .none), ⟨by omega, by omega, ?_, fun r hr' => (hr r hr').1, fun r hr' a w e => by rw [← lt]; exact (hr r hr').2.2 a w e⟩, by unfold tabD; rw [ht]⟩
      have z := hr r0 List.mem_cons_self
      rw [← z.1]
      exact z.2.1
    · rw [if_neg hl] at h0
      cases h0
  | _ => cases h
/-! ### Machine(..), of anything -/
section
variable {C CB : Addr}
def spMInitX (K : PySem.W.Frag) (C CB : Addr) : Sp := fun vs H Q E => ∃ (p dx : Addr) (v : V) (d : PyData), vs = [.ref p, v] ∧ H p = some (.ins C dx []) ∧ Dp K H v d ∧
  (∀ t m, Good t m → d = tabD t → ∀ H' dx', H' p = some (.ins C dx' [("_table", v)]) → Dp K H' v d → (∀ b o, b ≠ p → H b = some o → H' b = some o) → Q .non H') ∧
  ∀ z, tabFault d = some z → ∀ H' e, Same H H' → H' e = none → E (.ref CB) (some e) (upd H' e (.xd [("index", idxV z)]))
theorem ok_Machine_initX {f : Addr} {fd : FuncData} (F : Fun K "__init__" "Machine.__init__" s_Machine_init f fd) (T : Txt K C)
    (G__check_table : DefK P w K mg base (L2.CX P w) 4 "_check_table" P__check_table (spTabX K CB)) : FnOk P w K mg base (L2.CX P w) 5 f fd P_Machine_init (spMInitX K C CB) := by
  refine F.okX sc_Machine_init (fun vs H Q E h => ?_) (fun cdv A outer s H vs Q E hr h => ?_)
  · obtain ⟨p, dx, v, d, rfl, _⟩ := h
    rfl
  · obtain ⟨p, dx, v, d, rfl, hp, dv, k, kF⟩ := h
    refine ⟨_, (pss_cons (ps_expr (pe_defX G__check_table (hr.mono (by omega)) (by rfl) (takes_of rfl rfl rfl rfl) (by exact (pa_cons (pv 1) pa_nil))))
 (pss_one (ps_fld (pv 0) (pv 1) rfl))), ?_⟩
    refine ⟨_, rfl, v, d, rfl, dv, fun e H1 s1 => ?_, kF⟩
    obtain ⟨t, m, g, rfl⟩ := good_of e
    refine ⟨_, rfl, _, rfl, p, C, dx, [], rfl, s1 _ _ hp, T.cl, T.nT, (by show 0 < 1000; decide), ?_⟩
    have e1 := s1 _ _ hp
    refine k t m g rfl _ dx upd_same ?_ (fun b o n e => by rw [upd_ne n]; exact s1 _ _ e)
    refine dp_monoT (fun a xs z => ?_) (dp_same s1 dv) (noL_tab t)
    rcases z with (z | ⟨u, z⟩) | z
    · exact .inl (.inl (by rw [upd_ne (ne_of z e1 (by intro q; cases q))]; exact z))
    · exact .inl (.inr ⟨u, by rw [upd_ne (ne_of z e1 (by intro q; cases q))]; exact z⟩)
    · exact .inr z
end
/-! ### a machine's parts -/
section
variable {C : Addr}
def spMGet (K : PySem.W.Frag) (C : Addr) : Sp := fun vs H Q _ => ∃ (p dx : Addr) (v : V), vs = [.ref p] ∧ H p = some (.ins C dx [("_table", v)]) ∧ Q v H
theorem ok_Machine_table {f : Addr} {fd : FuncData} (F : Fun K "table" "Machine.table" s_Machine_table f fd) (T : Txt K C) : FnOk P w K mg base CX0 1 f fd P_Machine_table (spMGet K C) := by
  refine F.ok sc_Machine_table (fun vs H Q E h => ?_) (fun cdv A outer s H vs Q E hr h => ?_)
  · obtain ⟨p, dx, v, rfl, _⟩ := h
    rfl
  · obtain ⟨p, dx, v, rfl, hp, k⟩ := h
    refine ⟨_, (pss_one (ps_ret (pe_fld (pv 0) rfl))), ?_⟩
    exact ⟨_, rfl, p, C, dx, _, v, rfl, hp, T.cl, T.nT, rfl, k⟩
def spMLen (K : PySem.W.Frag) (C : Addr) : Sp := fun vs H Q _ => ∃ (p : Addr) (t : Tab), vs = [.ref p] ∧ Mach K C H p t ∧ Q (.int (t.length : Nat)) H
theorem ok_Machine_len {f : Addr} {fd : FuncData} (F : Fun K "__len__" "Machine.__len__" s_Machine_len f fd) (T : Txt K C) (B : Blt mg) : FnOk P w K mg base CX0 1 f fd P_Machine_len (spMLen K C) := by
  refine F.ok sc_Machine_len (fun vs H Q E h => ?_) (fun cdv A outer s H vs Q E hr h => ?_)
  · obtain ⟨p, t, rfl, _⟩ := h
    rfl
  · obtain ⟨p, t, rfl, ⟨dx, v, hp, dv⟩, k⟩ := h
    obtain ⟨a, xs, rfl, sx, lx⟩ := tab_len dv
    refine ⟨_, (pss_one (ps_ret (pe_callB (k_len K) (by rfl) B.n_len boot_len (pa_cons (pe_fld (pv 0) rfl) pa_nil)))), ?_⟩
    rw [← lx] at k
    exact ⟨_, rfl, p, C, dx, _, .ref a, rfl, hp, T.cl, T.nT, rfl, a, xs, rfl, .inr sx, k⟩
def spMLet (K : PySem.W.Frag) (C : Addr) : Sp := fun vs H Q _ => ∃ (p : Addr) (t : Tab) (m : Nat), vs = [.ref p] ∧ Mach K C H p t ∧ Good t m ∧ Q (.int (m : Nat)) H
theorem ok_Machine_letters {f : Addr} {fd : FuncData} (F : Fun K "letters" "Machine.letters" s_Machine_letters f fd) (T : Txt K C) (B : Blt mg) : FnOk P w K mg base CX0 1 f fd P_Machine_letters (spMLet K C) := by
  refine F.ok sc_Machine_letters (fun vs H Q E h => ?_) (fun cdv A outer s H vs Q E hr h => ?_)
  · obtain ⟨p, t, m, rfl, _⟩ := h
    rfl
  · obtain ⟨p, t, m, rfl, ⟨dx, v, hp, dv⟩, g, k⟩ := h
    obtain ⟨a, xs, b, ys, z, rfl, h1, lx, e1, h2, ly, _⟩ := tab_at (n := 0) (c := 0) g dv g.lo (by rcases g.lets with e | e <;> omega)
    refine ⟨_, (pss_one (ps_ret (pe_callB (k_len K) (by rfl) B.n_len boot_len (pa_cons (pe_ix (k_ixT K) (pe_fld (pv 0) rfl) pe_int (fun _ _ => rfl)) pa_nil)))), ?_⟩
    rw [← ly] at k
    exact ⟨_, rfl, p, C, dx, _, .ref a, rfl, hp, T.cl, T.nT, rfl, a, xs, _, _, rfl, rfl, h1, e1, b, ys, rfl, .inr h2, k⟩
end
/-! ### _law_mix: the source is made -/
def spMix (K : PySem.W.Frag) : Sp := fun vs H Q _ => ∃ (a : Addr) (ns : List Int) (seed : Int), vs = [.ref a, .int seed] ∧ SqL K H a (ns.map V.int) ∧ ns.length ≤ 63 ∧ 0 ≤ seed ∧ seed < 2147483647 ∧
  ∀ (h l : Addr) (H' : Hp), Same H H' → H h = none → H l = none → Src H' h l → Q (.ref h) H'
theorem ok_law_mix {f : Addr} {fd : FuncData} (F : Fun K "_law_mix" "_law_mix" s__law_mix f fd) (B : Blt mg) : FnOk P w K mg base CX0 1 f fd P__law_mix (spMix K) := by
  refine F.ok sc__law_mix (fun vs H Q E h => ?_) (fun cdv A outer s H vs Q E hr h => ?_)
  · obtain ⟨a, ns, seed, rfl, _⟩ := h
    rfl
  · obtain ⟨a, ns, seed, rfl, hS, hlen, s0, s1, k⟩ := h
    refine ⟨_, (pss_cons (ps_set (i := 2) sc__law_mix.nd rfl (Or.inl rfl) (pv 1))
 (pss_cons (ps_for PassesOwn.never rfl (k_pil K (pv 0)) (pg_name (i := 3) sc__law_mix.nd rfl (Or.inl rfl))
 (pss_one (ps_set (i := 2) sc__law_mix.nd rfl (Or.inl rfl) (pe_op op_modN (pe_callTy k_int1 (by rfl) B.n_int (by decide +kernel) (pa_cons (pe_op op_add (pe_op op_add (pe_op op_mul (pv 2) pe_int) (pe_op op_modN (pe_callTy k_int1 (by rfl) B.n_int (by decide +kernel) (pa_cons (pv 3) pa_nil)) pe_int)) pe_int) pa_nil)) pe_int))))
 (pss_one (ps_ret (pe_lst (pa_cons (pv 2) (pa_cons (pe_callTy (k_listOf K) (by rfl) B.n_list (by decide +kernel) (pa_cons (pv 0) pa_nil)) (pa_cons pe_int pa_nil)))))))), ?_⟩
    refine ⟨_, rfl, _, rfl, a, rfl, ⟨_, hS⟩, for_list (K := K) (a := a) (xs := ns.map V.int) (fun i σ H' => H' = H ∧ ∃ (st : Int) (v : Option V), σ = [some (.ref a), some (.int seed), some (.int st), v] ∧ 0 ≤ st ∧ st < 2147483647)
      ⟨rfl, seed, none, rfl, s0, s1⟩ (fun i σ H' _ ⟨e, _⟩ => e ▸ hS) ?_ ?_⟩
    · rintro i x σ H' hi ⟨rfl, st, v, rfl, b0, b1⟩
      obtain ⟨n, rfl⟩ : ∃ n, x = V.int n := by
        rw [List.getElem?_map] at hi
        cases e : ns[i]? with
        | none => rw [e] at hi; cases hi
        | some u => rw [e] at hi; exact ⟨u, (Option.some.inj hi).symm⟩
      walk_at "rd"
      exact ⟨rfl, _, _, rfl, Int.fmod_nonneg_of_pos _ (by decide), Int.fmod_lt_of_pos _ (by decide)⟩
    · rintro σ H' ⟨rfl, st, v, rfl, b0, b1⟩
      walk_at "rd"
      refine ⟨a, _, rfl, .inl hS, fun l hl => ⟨by show 3 ≤ sizeLine; decide, fun h hh => ?_⟩⟩
      have hl' : H' h = none := (same_new hl _).free hh
      have lh : l ≠ h := fun z => by rw [← z, upd_same] at hh; cases hh
      refine k h l _ ((same_new hl _).trans (same_new hh _)) hl' hl ⟨lh.symm, st, 0, ns, upd_same, ?_, hlen, b0, b1⟩
      rw [upd_ne lh, upd_same]
/-! ### _law_next: a draw below a cap -/
def spNext : Sp := fun vs H Q _ => ∃ (h l : Addr) (cap : Int), vs = [.ref h, .int cap] ∧ Src H h l ∧ 0 < cap ∧ cap < 1000000 ∧
  ∀ (n : Nat) (H' : Hp), (n : Int) < cap → Src H' h l → Keep h l H H' → Q (.int n) H'
theorem ok_law_next {f : Addr} {fd : FuncData} (F : Fun K "_law_next" "_law_next" s__law_next f fd) (B : Blt mg) : FnOk P w K mg base CX0 1 f fd P__law_next spNext := by
  refine F.ok sc__law_next (fun vs H Q E h => ?_) (fun cdv A outer s H vs Q E hr h => ?_)
  · obtain ⟨h, l, cap, rfl, _⟩ := h
    rfl
  · obtain ⟨h, l, cap, rfl, S, c0, c1, k⟩ := h
    obtain ⟨ne, st, ix, cells, e1, e2, hlen, b0, b1⟩ := id S
    refine ⟨_, (pss_cons (ps_set (i := 2) sc__law_next.nd rfl (Or.inl rfl) (pe_ix (k_ixL K) (pe_op op_cat (pe_ix (k_ixL K) (pv 0) pe_int (fun _ _ => rfl)) (pe_lst (pa_cons pe_int pa_nil))) (pe_op op_modN (pe_callTy k_int1 (by rfl) B.n_int (by decide +kernel) (pa_cons (pe_ix (k_ixL K) (pv 0) pe_int (fun _ _ => rfl)) pa_nil)) (pe_callB (call_max2 rfl) (by rfl) B.n_max (by decide +kernel) (pa_cons pe_int (pa_cons (pe_callB (k_len K) (by rfl) B.n_len boot_len (pa_cons (pe_ix (k_ixL K) (pv 0) pe_int (fun _ _ => rfl)) pa_nil)) pa_nil)))) (fun _ _ => rfl)))
 (pss_cons (ps_if (pt_cmpR op_ge (pv 2) (pe_op op_pow pe_int pe_int) (nomark _)) (pss_cons (ps_asg (pe_op op_fdivN (pv 2) (pv 1)) (pg_sub (pe_ix (k_ixL K) (pv 0) pe_int (fun _ _ => rfl)) (pe_op op_modN (pe_callTy k_int1 (by rfl) B.n_int (by decide +kernel) (pa_cons (pe_ix (k_ixL K) (pv 0) pe_int (fun _ _ => rfl)) pa_nil)) (pe_callB (k_len K) (by rfl) B.n_len boot_len (pa_cons (pe_ix (k_ixL K) (pv 0) pe_int (fun _ _ => rfl)) pa_nil))) set_list))
 (pss_one (ps_ret (pe_op op_modN (pe_callTy k_int1 (by rfl) B.n_int (by decide +kernel) (pa_cons (pv 2) pa_nil)) (pv 1))))) pss_nil)
 (pss_cons (ps_asg (pe_op op_modN (pe_callTy k_int1 (by rfl) B.n_int (by decide +kernel) (pa_cons (pe_op op_add (pe_op op_add (pe_op op_mul (pe_ix (k_ixL K) (pv 0) pe_int (fun _ _ => rfl)) pe_int) (pe_op op_mul (pv 2) pe_int)) pe_int) pa_nil)) pe_int) (pg_sub (pv 0) pe_int set_list))
 (pss_cons (ps_asg (pe_op op_add (pe_ix (k_ixL K) (pv 0) pe_int (fun _ _ => rfl)) pe_int) (pg_sub (pv 0) pe_int set_list))
 (pss_one (ps_ret (pe_op op_modN (pe_callTy k_int1 (by rfl) B.n_int (by decide +kernel) (pa_cons (pe_op op_fdivN (pe_ix (k_ixL K) (pv 0) pe_int (fun _ _ => rfl)) pe_int) pa_nil)) (pv 1)))))))), ?_⟩
    have l_h : ∀ {H' : Hp}, Same H H' → H' h = some (.lst [.int st, .ref l, .int ix]) ∧ H' l = some (.lst (cells.map V.int)) := fun e => ⟨e _ _ e1, e _ _ e2⟩
    have sl : (cells.map V.int).length = cells.length := List.length_map _
    -- the cell
    refine ⟨_, rfl, h, _, _, _, rfl, rfl, SqL.of e1, rfl, by show 1 ≤ sizeLine; decide, fun q hq => ?_⟩
    have s1 : Same H (upd H q (.lst [.int 0])) := same_new hq _
    obtain ⟨f1, f2⟩ := l_h s1
    refine ⟨l, q, _, _, rfl, rfl, f2, upd_same, Nat.le_trans (by rw [sl]; exact Nat.add_le_add_right hlen 1) (by decide : 64 ≤ sizeLine), fun p hp => ?_⟩
    have s2 : Same H (upd (upd H q (.lst [.int 0])) p (.lst (cells.map V.int ++ [.int 0]))) := s1.trans (same_new hp _)
    have gp : (upd (upd H q (.lst [.int 0])) p (.lst (cells.map V.int ++ [.int 0]))) p = some (.lst (cells.map V.int ++ [.int 0])) := upd_same
    revert s2 gp
    generalize upd (upd H q (.lst [.int 0])) p (.lst (cells.map V.int ++ [.int 0])) = H2
    intro s2 gp
    obtain ⟨g1, g2⟩ := l_h s2
    generalize em : (if (((cells.map V.int).length : Nat) : Int) > 1 then (((cells.map V.int).length : Nat) : Int) else 1) = m
    have m0 : 0 < m := by rw [← em, sl]; split <;> omega
    have m1 : m ≤ (((cells ++ [0]).length : Nat) : Int) := by rw [← em, sl, List.length_append, List.length_singleton]; split <;> omega
    have x0 := Int.fmod_nonneg_of_pos ix m0
    have x1 := Int.fmod_lt_of_pos ix m0
    obtain ⟨c, hc, cm⟩ := atI_int (ns := cells ++ [0]) x0 (Int.lt_of_lt_of_le x1 m1)
    rw [List.map_append] at hc
    refine ⟨_, rfl, h, _, _, _, rfl, rfl, SqL.of g1, rfl, .inl ⟨_, rfl, _, rfl, h, _, _, _, rfl, rfl, SqL.of g1, rfl, l, _, rfl, .inl (SqL.of g2), _, _, rfl, _, _, rfl, rfl, ?_, p, _, _, .int c, rfl, rfl, SqL.of gp, ?_, ?_⟩⟩
    · show (if (((cells.map V.int).length : Nat) : Int) > 1 then (((cells.map V.int).length : Nat) : Int) else 1) ≠ 0
      rw [em]
      omega
    · show atI _ (ix.fmod (if (((cells.map V.int).length : Nat) : Int) > 1 then (((cells.map V.int).length : Nat) : Int) else 1)) = _
      rw [em]
      exact hc
    -- is it great
    refine ⟨_, rfl, _, _, rfl, rfl, ⟨by decide, by decide, by decide⟩, _, _, rfl, rfl, _, rfl, ?_⟩
    have hb : (0 : Int) < (10 : Int) ^ (18 : Int).toNat := by decide
    revert hb
    generalize ((10 : Int) ^ (18 : Int).toNat) = big
    intro hb
    refine ite2 (fun t => ?_) (fun t => ?_)
    · have t' : big ≤ c := of_decide_eq_true t
      have nz : 0 < cells.length := by
        rcases List.mem_append.mp cm with z | z
        · exact List.length_pos_of_mem z
        · rw [List.mem_singleton.mp z] at t'
          omega
      have y0 := Int.fmod_nonneg_of_pos ix (b := (cells.length : Int)) (by omega)
      have y1 := Int.fmod_lt_of_pos ix (b := (cells.length : Int)) (by omega)
      refine ⟨_, rfl, _, rfl, _, _, rfl, rfl, ⟨by omega, by omega⟩, _, rfl, h, _, _, _, rfl, rfl, SqL.of g1, rfl, _, rfl, h, _, _, _, rfl, rfl, SqL.of g1, rfl, .inl ⟨_, rfl, _, rfl, h, _, _, _, rfl, rfl, SqL.of g1, rfl, l, _, rfl, .inl (SqL.of g2), _, _, rfl, rfl, ?_, l, _, _, (ix.fmod (cells.length : Int)).toNat, rfl, rfl, g2, ?_, ?_⟩⟩
      · show (((cells.map V.int).length : Nat) : Int) ≠ 0
        rw [sl]
        omega
      · show ixN (cells.map V.int).length (ix.fmod (((cells.map V.int).length : Nat) : Int)) = _
        rw [sl]
        exact ixN_in y0 y1
      refine ⟨_, rfl, .inl ⟨_, rfl, _, rfl, _, _, rfl, rfl, (fun z => by omega), ?_⟩⟩
      have z0 := Int.fmod_nonneg_of_pos c c0
      have z1 := Int.fmod_lt_of_pos c c0
      have ez : c.fmod cap = (((c.fmod cap).toNat : Nat) : Int) := by omega
      show Q (.int (c.fmod cap)) _
      rw [ez]
      refine k _ _ (by omega) ⟨ne, st, ix, cells.set (ix.fmod (cells.length : Int)).toNat (c.fdiv cap), ?_, ?_, ?_, b0, b1⟩ (fun b o n1 n2 e => ?_)
      · rw [upd_ne ne]
        exact g1
      · rw [upd_same, List.map_set]
      · rw [List.length_set]
        exact hlen
      · rw [upd_ne n2]
        exact s2 _ _ e
    · refine ⟨_, rfl, h, _, _, _, rfl, rfl, SqL.of g1, rfl, _, _, rfl, rfl, .inr ⟨by decide, by decide⟩, _, rfl, _, _, rfl, rfl, .inr ⟨by decide, by decide⟩, _, _, rfl, rfl, _, _, rfl, rfl, .inl ⟨_, rfl, _, _, rfl, rfl, (fun z => by omega), _, rfl, h, _, _, 0, rfl, rfl, g1, rfl, ?_⟩⟩
      refine ⟨_, rfl, h, _, _, _, rfl, rfl, SqL.of upd_same, rfl, _, _, rfl, rfl, _, rfl, h, _, _, 2, rfl, rfl, upd_same, rfl, ?_⟩
      refine ⟨_, rfl, h, _, _, _, rfl, rfl, SqL.of upd_same, rfl, _, _, rfl, rfl, ⟨by decide, by decide⟩, .inl ⟨_, rfl, _, rfl, _, _, rfl, rfl, (fun z => by omega), ?_⟩⟩
      obtain ⟨u, ew⟩ : ∃ u, Int.fdiv (Int.fmod (st * 48271 + c * 69621 + 11) 2147483647) 7 = u := ⟨_, rfl⟩
      have z0 := Int.fmod_nonneg_of_pos u c0
      have z1 := Int.fmod_lt_of_pos u c0
      have ez : u.fmod cap = (((u.fmod cap).toNat : Nat) : Int) := by omega
      have go : Q (.int (u.fmod cap)) (upd (upd H2 h (.lst [.int (Int.fmod (st * 48271 + c * 69621 + 11) 2147483647), .ref l, .int ix])) h (.lst [.int (Int.fmod (st * 48271 + c * 69621 + 11) 2147483647), .ref l, .int (ix + 1)])) := by
        rw [ez]
        refine k _ _ (by omega) ⟨ne, _, _, cells, upd_same, ?_, hlen, Int.fmod_nonneg_of_pos _ (by decide), Int.fmod_lt_of_pos _ (by decide)⟩ (fun b o n1 n2 e => ?_)
        · rw [upd_ne ne.symm, upd_ne ne.symm]
          exact g2
        · rw [upd_ne n1, upd_ne n1]
          exact s2 _ _ e
      rw [← ew] at go
      exact go
/-! ### _law_pick: one of some things -/
def spPick : Sp := fun vs H Q _ => ∃ (h l a : Addr) (xs : List V), vs = [.ref h, .ref a] ∧ Src H h l ∧ H a = some (.lst xs) ∧ a ≠ h ∧ a ≠ l ∧ 0 < xs.length ∧ xs.length < 1000000 ∧
  ∀ (v : V) (H' : Hp), v ∈ xs → Src H' h l → Keep h l H H' → Q v H'
theorem ok_law_pick {f : Addr} {fd : FuncData} (F : Fun K "_law_pick" "_law_pick" s__law_pick f fd) (B : Blt mg) (G__law_next : DefK P w K mg base CX0 1 "_law_next" P__law_next spNext) : FnOk P w K mg base CX0 2 f fd P__law_pick spPick := by
  refine F.ok sc__law_pick (fun vs H Q E h => ?_) (fun cdv A outer s H vs Q E hr h => ?_)
  · obtain ⟨h, l, a, xs, rfl, _⟩ := h
    rfl
  · obtain ⟨h, l, a, xs, rfl, S, ea, n1, n2, p0, p1, k⟩ := h
    refine ⟨_, (pss_one (ps_ret (pe_ix (k_ixL K) (pv 1) (pe_def G__law_next (hr.mono (by omega)) (by rfl) (pa_cons (pv 0) (pa_cons (pe_callB (k_len K) (by rfl) B.n_len boot_len (pa_cons (pv 1) pa_nil)) pa_nil))) (fun _ _ => rfl)))), ?_⟩
    refine ⟨_, rfl, _, rfl, _, rfl, a, _, rfl, .inl (SqL.of ea), h, l, xs.length, rfl, S, by omega, by omega, fun n H' hn S' kp => ?_⟩
    obtain ⟨v, e1, _, e3⟩ := atI_at (xs := xs) (i := (n : Int)) (by omega) hn
    exact ⟨a, xs, _, v, rfl, rfl, SqL.of (kp _ _ n1 n2 ea), e1, k v H' e3 S' kp⟩
/-! ### _law_table: a table is drawn -/
def spTable (K : PySem.W.Frag) : Sp := fun vs H Q _ => ∃ (h l : Addr), vs = [.ref h] ∧ Src H h l ∧
  ∀ (v : V) (t : Tab) (m : Nat) (H' : Hp), Good t m → Dp K H' v (tabD t) → Src H' h l → Keep h l H H' → Q v H'
def GoodRow (M m : Nat) (r : List Stp) : Prop := r.length ≤ m ∧ ∀ n x, some (n, x) ∈ r → n < M ∧ x < 4
theorem ok_law_table {f : Addr} {fd : FuncData} (F : Fun K "_law_table" "_law_table" s__law_table f fd) (B : Blt mg) (G__law_next : DefK P w K mg base CX0 1 "_law_next" P__law_next spNext)
    (G__law_pick : DefK P w K mg base CX0 2 "_law_pick" P__law_pick spPick) : FnOk P w K mg base CX0 3 f fd P__law_table (spTable K) := by
  refine F.ok sc__law_table (fun vs H Q E h => ?_) (fun cdv A outer s H vs Q E hr h => ?_)
  · obtain ⟨h, l, rfl, _⟩ := h
    rfl
  · obtain ⟨h, l, rfl, S, k⟩ := h
    refine ⟨_, (pss_cons (ps_par (i := 1) (j := 2) rfl sc__law_table.nd rfl rfl (by decide) rfl rfl (pa_cons (pe_op op_add pe_int (pe_def G__law_next (hr.mono (by omega)) (by rfl) (pa_cons (pv 0) (pa_cons pe_int pa_nil)))) (pa_cons (pe_op op_add pe_int (pe_def G__law_next (hr.mono (by omega)) (by rfl) (pa_cons (pv 0) (pa_cons pe_int pa_nil)))) pa_nil)) rfl)
 (pss_cons (ps_par3 (i := 3) (j := 4) (l := 5) rfl sc__law_table.nd rfl rfl rfl (by decide) (by decide) (by decide) rfl rfl rfl (pa_cons (pe_def G__law_pick (hr.mono (by omega)) (by rfl) (pa_cons (pv 0) (pa_cons (pe_lst (pa_cons pe_int (pa_cons pe_int (pa_cons pe_int (pa_cons pe_int (pa_cons pe_int pa_nil)))))) pa_nil))) (pa_cons (pe_def G__law_pick (hr.mono (by omega)) (by rfl) (pa_cons (pv 0) (pa_cons (pe_lst (pa_cons pe_int (pa_cons pe_int (pa_cons pe_int (pa_cons pe_int (pa_cons pe_int pa_nil)))))) pa_nil))) (pa_cons (pe_def G__law_next (hr.mono (by omega)) (by rfl) (pa_cons (pv 0) (pa_cons pe_int pa_nil))) pa_nil))) (by rfl))
 (pss_cons (ps_set (i := 6) sc__law_table.nd rfl (Or.inl rfl) (pe_lst pa_nil))
 (pss_cons (ps_for PassesOwn.never rfl (pi_range1 (by rfl) B.n_range (pa_cons (pv 1) pa_nil)) (pg_name (i := 7) sc__law_table.nd rfl (Or.inl rfl))
 (pss_cons (ps_set (i := 8) sc__law_table.nd rfl (Or.inl rfl) (pe_lst pa_nil))
 (pss_cons (ps_for PassesOwn.never rfl (pi_range1 (by rfl) B.n_range (pa_cons (pv 2) pa_nil)) (pg_name (i := 9) sc__law_table.nd rfl (Or.inl rfl))
 (pss_cons (ps_par (i := 10) (j := 11) rfl sc__law_table.nd rfl rfl (by decide) rfl rfl (pa_cons (pe_def G__law_next (hr.mono (by omega)) (by rfl) (pa_cons (pv 0) (pa_cons (pv 1) pa_nil))) (pa_cons (pe_def G__law_next (hr.mono (by omega)) (by rfl) (pa_cons (pv 0) (pa_cons (pv 3) pa_nil))) pa_nil)) rfl)
 (pss_mid (ps_if (pt_cmpR op_eq (pv 5) pe_int (nomark _)) (pss_cons (ps_set (i := 10) sc__law_table.nd rfl (Or.inl rfl) (pe_op op_modN (pe_callTy k_int1 (by rfl) B.n_int (by decide +kernel) (pa_cons (pe_op op_add (pv 7) (pv 9)) pa_nil)) (pv 1)))
 (pss_one (ps_set (i := 11) sc__law_table.nd rfl (Or.inl rfl) (pe_ifExp (pt_cmpR op_eq (pv 9) pe_int (nomark _)) (pe_ifExp (pt_cmpR op_eq (pv 7) pe_int (nomark _)) pe_int pe_int) pe_int)))) pss_nil)
 (pss_mid (ps_if (PW.pt (pw_and (pt_cmpR op_eq (pv 5) pe_int (nomark _)) (pw_and1 (pt_cmpR op_eq (pv 9) pe_int (nomark _))))) (pss_one (ps_set (i := 10) sc__law_table.nd rfl (Or.inl rfl) (pe_op op_modN (pe_callTy k_int1 (by rfl) B.n_int (by decide +kernel) (pa_cons (pe_op op_add (pv 7) pe_int) pa_nil)) (pv 1)))) pss_nil)
 (pss_one (ps_expr (pe_bm PySem.F.plainAttrs_list PySem.F.slot_list_append PySem.F.type_list_append mt_append (pv 8) (pa_cons (pe_ifExp (pt_cmpR op_lt (pe_def G__law_next (hr.mono (by omega)) (by rfl) (pa_cons (pv 0) (pa_cons pe_int pa_nil))) (pv 4) (nomark _)) pe_non (pe_tup (pa_cons (pv 10) (pa_cons (pv 11) pa_nil)))) pa_nil))))))))
 (pss_one (ps_expr (pe_bm PySem.F.plainAttrs_list PySem.F.slot_list_append PySem.F.type_list_append mt_append (pv 6) (pa_cons (pe_callTy (k_tupOf K) (by rfl) B.n_tuple (by decide +kernel) (pa_cons (pv 8) pa_nil)) pa_nil)))))))
 (pss_one (ps_ret (pe_callTy (k_tupOf K) (by rfl) B.n_tuple (by decide +kernel) (pa_cons (pv 6) pa_nil)))))))), ?_⟩
    refine ⟨_, rfl, h, l, 6, rfl, S, by decide, by decide, fun n1 H1 b1 S1 k1 => ⟨_, _, rfl, rfl, _, rfl, h, l, 2, rfl, S1, by decide, by decide, fun n2 H2 b2 S2 k2 => ⟨_, _, rfl, rfl, _, _, rfl, ?_⟩⟩⟩
    refine ⟨_, rfl, by show 5 ≤ sizeLine; decide, fun p hp => ⟨h, l, p, _, rfl, S2.same (same_new hp _), upd_same, (S2.neN hp).1, (S2.neN hp).2, by show 0 < 5; decide, by show 5 < 1000000; decide, fun v3 H3 m3 S3 k3 => ?_⟩⟩
    refine ⟨_, rfl, by show 5 ≤ sizeLine; decide, fun p' hp' => ⟨h, l, p', _, rfl, S3.same (same_new hp' _), upd_same, (S3.neN hp').1, (S3.neN hp').2, by show 0 < 5; decide, by show 5 < 1000000; decide, fun v4 H4 m4 S4 k4 => ?_⟩⟩
    refine ⟨_, rfl, h, l, 3, rfl, S4, by decide, by decide, fun n5 H5 b5 S5 k5 => ⟨_, _, _, rfl, ?_⟩⟩
    obtain ⟨cap, rfl, c0, c1⟩ : ∃ cap : Int, v3 = .int cap ∧ 0 < cap ∧ cap ≤ 4 := by
      have z : v3 = .int 1 ∨ v3 = .int 2 ∨ v3 = .int 4 := by simpa using m3
      rcases z with rfl | rfl | rfl
      · exact ⟨1, rfl, by decide, by decide⟩
      · exact ⟨2, rfl, by decide, by decide⟩
      · exact ⟨4, rfl, by decide, by decide⟩
    obtain ⟨lk, rfl⟩ : ∃ lk : Int, v4 = .int lk := by
      have z : v4 = .int 0 ∨ v4 = .int 1 ∨ v4 = .int 3 := by simpa using m4
      rcases z with rfl | rfl | rfl <;> exact ⟨_, rfl⟩
    have kk : Keep h l H H5 := k1.trans (k2.trans ((Keep.of (same_new hp _)).trans (k3.trans ((Keep.of (same_new hp' _)).trans (k4.trans k5)))))
    clear k1 k2 k3 k4 k5 S S1 S2 S3 S4 hp hp' m3 m4
    refine ⟨by show 0 ≤ sizeLine; decide, fun R hR => ?_⟩
    have nR := S5.neN hR
    have kR : Keep h l H (upd H5 R (.lst [])) := kk.trans (.of (same_new hR _))
    refine ⟨_, rfl, _, rfl, by omega, by omega, for_range (lo := 0) (n := (1 + (n1 : Int)).toNat) (fun i σ H' => ∃ (vs : List V) (t : Tab) (u7 u8 u9 u10 u11 : Option V),
      σ = [some (.ref h), some (.int (1 + (n1 : Int))), some (.int (2 + (n2 : Int))), some (.int cap), some (.int lk), some (.int (n5 : Int)), some (.ref R), u7, u8, u9, u10, u11] ∧ Src H' h l ∧ Keep h l H H' ∧
      H' R = some (.lst vs) ∧ DpAll K H' vs (t.map rowD) ∧ t.length = i ∧ ∀ r ∈ t, r.length = 2 + n2 ∧ ∀ n x, some (n, x) ∈ r → n < 1 + n1 ∧ x < 4)
      ⟨[], [], none, none, none, none, none, rfl, S5.same (same_new hR _), kR, upd_same, .nil, rfl, fun _ z => nomatch z⟩ ?_ ?_⟩
    · rintro i σ H6 hi ⟨vs, t, u7, u8, u9, u10, u11, rfl, S6, k6, eR, dR, tl, tg⟩
      refine ⟨by show 0 ≤ sizeLine; decide, fun p hp => ?_⟩
      have np := S6.neN hp
      have Rp : R ≠ p := ne_of_none eR hp
      refine ⟨_, rfl, _, rfl, by omega, by omega, for_range (lo := 0) (n := (2 + (n2 : Int)).toNat) (fun j σ H' => ∃ (rs : List V) (r : List Stp) (u9 u10 u11 : Option V),
        σ = [some (.ref h), some (.int (1 + (n1 : Int))), some (.int (2 + (n2 : Int))), some (.int cap), some (.int lk), some (.int (n5 : Int)), some (.ref R), some (.int (0 + (i : Int))), some (.ref p), u9, u10, u11] ∧ Src H' h l ∧ Keep h l H H' ∧
        H' R = some (.lst vs) ∧ DpAll K H' vs (t.map rowD) ∧ H' p = some (.lst rs) ∧ DpAll K H' rs (r.map stepD) ∧ r.length = j ∧ ∀ n x, some (n, x) ∈ r → n < 1 + n1 ∧ x < 4)
        ⟨[], [], u9, u10, u11, rfl, S6.same (same_new hp _), k6.trans (.of (same_new hp _)), by rw [upd_ne Rp]; exact eR, dps_same (same_new hp _) dR, upd_same, .nil, rfl, fun _ _ z => nomatch z⟩ ?_ ?_⟩
      · rintro j σ H7 hj ⟨rs, r, w9, w10, w11, rfl, S7, k7, eR7, dR7, ep, dr, rl, rg⟩
        refine ⟨_, rfl, _, rfl, h, l, _, rfl, S7, by omega, by omega, fun g H8 bg S8 k8 => ⟨_, rfl, _, rfl, h, l, cap, rfl, S8, c0, by omega, fun q H9 bq S9 k9 => ⟨_, _, rfl, ?_⟩⟩⟩
        have k79 := k8.trans k9
        refine ⟨fun σ H' => H' = H9 ∧ ∃ g q : Int, σ = [some (.ref h), some (.int (1 + (n1 : Int))), some (.int (2 + (n2 : Int))), some (.int cap), some (.int lk), some (.int (n5 : Int)), some (.ref R), some (.int (0 + (i : Int))), some (.ref p), some (.int (0 + (j : Int))), some (.int g), some (.int q)] ∧ 0 ≤ g ∧ g < 1 + (n1 : Int) ∧ 0 ≤ q ∧ q < 4, ?_, ?_⟩
        · refine ⟨_, rfl, rfl, _, rfl, ?_⟩
          refine ite2 (fun _ => ?_) (fun _ => ?_)
          · have f0 := Int.fmod_nonneg_of_pos (0 + (i : Int) + (0 + (j : Int))) (b := 1 + (n1 : Int)) (by omega)
            have f1 := Int.fmod_lt_of_pos (0 + (i : Int) + (0 + (j : Int))) (b := 1 + (n1 : Int)) (by omega)
            refine ⟨_, rfl, _, rfl, _, _, rfl, rfl, .inl ⟨_, rfl, _, rfl, _, _, rfl, rfl, (fun z => by omega), _, rfl, rfl, _, rfl, ?_⟩⟩
            refine ite2 (fun _ => ?_) (fun _ => ⟨rfl, _, _, rfl, f0, f1, by decide, by decide⟩)
            refine ⟨_, rfl, rfl, _, rfl, ?_⟩
            exact ite2 (fun _ => ⟨rfl, _, _, rfl, f0, f1, by decide, by decide⟩) (fun _ => ⟨rfl, _, _, rfl, f0, f1, by decide, by decide⟩)
          · exact ⟨rfl, (g : Int), (q : Int), rfl, by omega, by omega, by omega, by omega⟩
        · rintro σ H' ⟨rfl, g, q, rfl, g0, g1, q0, q1⟩
          refine ⟨fun σ H'' => H'' = H' ∧ ∃ g q : Int, σ = [some (.ref h), some (.int (1 + (n1 : Int))), some (.int (2 + (n2 : Int))), some (.int cap), some (.int lk), some (.int (n5 : Int)), some (.ref R), some (.int (0 + (i : Int))), some (.ref p), some (.int (0 + (j : Int))), some (.int g), some (.int q)] ∧ 0 ≤ g ∧ g < 1 + (n1 : Int) ∧ 0 ≤ q ∧ q < 4, ?_, ?_⟩
          · refine ⟨_, rfl, rfl, _, rfl, ?_⟩
            refine ite2 (fun _ => ⟨_, rfl, rfl, _, rfl, ?_⟩) (fun _ => iteF ⟨rfl, g, q, rfl, g0, g1, q0, q1⟩)
            refine ite2 (fun _ => ?_) (fun _ => ⟨rfl, g, q, rfl, g0, g1, q0, q1⟩)
            refine ⟨_, rfl, _, _, rfl, rfl, .inl ⟨_, rfl, _, rfl, _, _, rfl, rfl, (fun z => by omega), rfl, _, q, rfl, Int.fmod_nonneg_of_pos _ (by omega), Int.fmod_lt_of_pos _ (by omega), q0, q1⟩⟩
          · rintro σ H'' ⟨rfl, g, q, rfl, g0, g1, q0, q1⟩
            have ep9 := k79 _ _ np.1 np.2 ep
            have eR9 := k79 _ _ nR.1 nR.2 eR7
            refine ⟨_, rfl, .inl ⟨rfl, _, SqL.of ep9⟩, _, rfl, h, l, 12, rfl, S9, by decide, by decide, fun d HA bd SA kA => ⟨_, rfl, _, _, rfl, rfl, _, rfl, ?_⟩⟩
            have epA := kA _ _ np.1 np.2 ep9
            have eRA := kA _ _ nR.1 nR.2 eR9
            have kHA : Keep h l H HA := k7.trans (k79.trans kA)
            have hp0 : H p = none := k6.free np.1 np.2 hp
            have dRA : DpAll K HA vs (t.map rowD) := S7.keepDs (k79.trans kA) dR7 (noLs_map noL_row t)
            have drA : DpAll K HA rs (r.map stepD) := S7.keepDs (k79.trans kA) dr (noLs_map noL_step r)
            have lrs : rs.length = r.length := by rw [dps_len dr, List.length_map]
            refine ite2 (fun _ => ?_) (fun _ => ?_)
            · refine ⟨p, _, _, rfl, rfl, epA, small1000 (by omega), rs ++ [.non], r ++ [none], _, _, _, rfl, SA.upd np.1 np.2, kHA.upd hp0, ?_, ?_, upd_same, ?_, ?_, ?_⟩
              · rw [upd_ne Rp]; exact eRA
              · exact dps_upd epA dRA (noLs_map noL_row t)
              · rw [List.map_append]
                exact dps_snoc (dps_upd epA drA (noLs_map noL_step r)) .non
              · rw [List.length_append, List.length_singleton, rl]
              · intro n x hm
                rcases List.mem_append.mp hm with hm | hm
                · exact rg n x hm
                · simp at hm
            · refine ⟨_, rfl, _, rfl, by show 2 ≤ sizeLine; decide, fun T hT => ?_⟩
              have sT := same_new hT (HO.tup [V.int g, V.int q])
              have pT : p ≠ T := ne_of_none epA hT
              have epT : (upd HA T (.tup [.int g, .int q])) p = some (.lst rs) := by rw [upd_ne pT]; exact epA
              refine ⟨p, _, _, rfl, rfl, epT, small1000 (by omega), rs ++ [.ref T], r ++ [some (g.toNat, q.toNat)], _, _, _, rfl, (SA.same sT).upd np.1 np.2, (kHA.trans (.of sT)).upd hp0, ?_, ?_, upd_same, ?_, ?_, ?_⟩
              · rw [upd_ne Rp]; exact sT _ _ eRA
              · exact dps_upd epT (dps_same sT dRA) (noLs_map noL_row t)
              · rw [List.map_append]
                refine dps_snoc (dps_upd epT (dps_same sT drA) (noLs_map noL_step r)) ?_
                have z : SqT K (upd (upd HA T (.tup [.int g, .int q])) p (.lst (rs ++ [.ref T]))) T [.int g, .int q] := SqT.of (by rw [upd_ne pT.symm, upd_same])
                show Dp K _ _ (.tuple [.int ((g.toNat : Nat) : Int), .int ((q.toNat : Nat) : Int)])
                rw [Int.toNat_of_nonneg g0, Int.toNat_of_nonneg q0]
                exact .tup z (.cons (.int _) (.cons (.int _) .nil))
              · rw [List.length_append, List.length_singleton, rl]
              · intro n x hm
                rcases List.mem_append.mp hm with hm | hm
                · exact rg n x hm
                · simp at hm
                  omega
      · rintro σ H7 ⟨rs, r, w9, w10, w11, rfl, S7, k7, eR7, dR7, ep, dr, rl, rg⟩
        refine ⟨_, rfl, .inl ⟨rfl, _, SqL.of eR7⟩, _, rfl, p, _, rfl, .inl ⟨SqL.of ep, fun T hT => ?_⟩⟩
        have sT := same_new hT (HO.tup rs)
        have RT : R ≠ T := ne_of_none eR7 hT
        have eRT : (upd H7 T (.tup rs)) R = some (.lst vs) := by rw [upd_ne RT]; exact eR7
        have lvs : vs.length = t.length := by rw [dps_len dR7, List.length_map]
        have hR0 : H R = none := kk.free nR.1 nR.2 hR
        refine ⟨R, _, _, rfl, rfl, eRT, small1000 (by omega), vs ++ [.ref T], t ++ [r], _, _, _, _, _, rfl, (S7.same sT).upd nR.1 nR.2, (k7.trans (.of sT)).upd hR0, upd_same, ?_, ?_, ?_⟩
        · rw [List.map_append]
          refine dps_snoc (dps_upd eRT (dps_same sT dR7) (noLs_map noL_row t)) ?_
          exact .tup (SqT.of (by rw [upd_ne RT.symm, upd_same])) (dps_upd eRT (dps_same sT dr) (noLs_map noL_step r))
        · rw [List.length_append, List.length_singleton, tl]
        · intro r' hm
          rcases List.mem_append.mp hm with hm | hm
          · exact tg r' hm
          · rw [List.mem_singleton.mp hm]
            exact ⟨by omega, rg⟩
    · rintro σ H6 ⟨vs, t, u7, u8, u9, u10, u11, rfl, S6, k6, eR, dR, tl, tg⟩
      refine ⟨_, rfl, R, _, rfl, .inl ⟨SqL.of eR, fun T hT => ?_⟩⟩
      have sT := same_new hT (HO.tup vs)
      have tl' : t.length = 1 + n1 := by omega
      exact k (.ref T) t (2 + n2) _ ⟨by omega, by omega, by omega, fun r hm => (tg r hm).1, fun r hm n x hx => by rw [tl']; exact (tg r hm).2 n x hx⟩ (.tup (SqT.of upd_same) (dps_same sT dR)) (S6.same sT) (k6.trans (.of sT))
/-! ### _law_alike: equal data are alike -/
/-- with n calls -/
def spAlike (K : PySem.W.Frag) : Nat → Sp
  | 0 => fun _ _ _ _ => False
  | n + 1 => fun vs H Q _ => ∃ (u v : V) (d : PyData), vs = [u, v] ∧ Dp K H u d ∧ Dp K H v d ∧ okD n d = true ∧ ∀ H', Same H H' → Q (.bl true) H'
theorem ok_law_alike {f : Addr} {fd : FuncData} (F : Fun K "_law_alike" "_law_alike" s__law_alike f fd) (B : Blt mg) (hm : mg "_law_alike" = some (.ref f)) (hb : Binds K fd P__law_alike []) : ∀ n : Nat, FnOk P w K mg base CX0 n f fd P__law_alike (spAlike K n)
  | 0 => ⟨fun _ _ _ _ h => h.elim, fun _ _ _ _ _ _ _ _ _ _ _ _ _ h => h.elim⟩
  | n + 1 => by
    have G__law_alike : DefK P w K mg base CX0 n "_law_alike" P__law_alike (spAlike K n) := ⟨f, fd, ok_law_alike F B hm hb n, hm, F.kp, hb⟩
    refine F.ok sc__law_alike (fun vs H Q E h => ?_) (fun cdv A outer s H vs Q E hr h => ?_)
    · obtain ⟨u, v, d, rfl, _⟩ := h
      rfl
    · obtain ⟨u, v, d, rfl, du, dv, ok, k⟩ := h
      refine ⟨_, (pss_cons (ps_if (pt_val (pe_callB (k_isiT K) (by rfl) B.n_isinstance (by decide +kernel) (pa_cons (pv 1) (pa_cons (pe_tup (pa_cons (pe_bltn (v := .ty "tuple") (u := .type "tuple") (by rfl) B.n_tuple (by decide +kernel) rfl) (pa_cons (pe_bltn (v := .ty "list") (u := .type "list") (by rfl) B.n_list (by decide +kernel) rfl) pa_nil))) pa_nil)))) (pss_cons (ps_if (PW.pt (pw_or (pt_not (pt_val (pe_callB (k_isiT K) (by rfl) B.n_isinstance (by decide +kernel) (pa_cons (pv 0) (pa_cons (pe_tup (pa_cons (pe_bltn (v := .ty "tuple") (u := .type "tuple") (by rfl) B.n_tuple (by decide +kernel) rfl) (pa_cons (pe_bltn (v := .ty "list") (u := .type "list") (by rfl) B.n_list (by decide +kernel) rfl) pa_nil))) pa_nil))))) (pw_or1 (pt_cmpR op_ne (pe_callB (k_isi K) (by rfl) B.n_isinstance (by decide +kernel) (pa_cons (pv 0) (pa_cons (pe_bltn (v := .ty "list") (u := .type "list") (by rfl) B.n_list (by decide +kernel) rfl) pa_nil))) (pe_callB (k_isi K) (by rfl) B.n_isinstance (by decide +kernel) (pa_cons (pv 1) (pa_cons (pe_bltn (v := .ty "list") (u := .type "list") (by rfl) B.n_list (by decide +kernel) rfl) pa_nil))) (nomark _))))) (pss_one (ps_ret pe_bl)) pss_nil)
 (pss_cons (ps_if (pt_cmpR op_ne (pe_callB (k_len K) (by rfl) B.n_len boot_len (pa_cons (pv 0) pa_nil)) (pe_callB (k_len K) (by rfl) B.n_len boot_len (pa_cons (pv 1) pa_nil)) (nomark _)) (pss_one (ps_ret pe_bl)) pss_nil)
 (pss_one (ps_ret (pe_cmpR (k_eqD K hr.units) (pe_lc (own := ([("_law_k", 2)] : List (Str × Nat))) (g := gName 2) rfl sc__law_alike.nd (pi_range1 (by rfl) B.n_range (pa_cons (pe_callB (k_len K) (by rfl) B.n_len boot_len (pa_cons (pv 1) pa_nil)) pa_nil)) (blkOk_by (own := ([("_law_k", 2)] : List (Str × Nat))) (N := N__law_alike) (sc := defScope s__law_alike) (by decide +kernel)) (fun _ _ _ _ _ => by exact (pg_name (i := 2) sc__law_alike.nd rfl (Or.inl rfl))) (fun _ _ _ _ _ => by exact (pts_one (pt_not (pt_val (pe_def G__law_alike (hr.mono (by omega)) (by rfl) (pa_cons (pe_ix (k_ixQ K) (pv 0) (pv 2) (fun _ _ => rfl)) (pa_cons (pe_ix (k_ixQ K) (pv 1) (pv 2) (fun _ _ => rfl)) pa_nil))))))) (fun _ _ _ _ _ => by exact (pv 2))) (pe_lst pa_nil) (nomark _)))))) pss_nil)
 (pss_cons (ps_if (PW.pt (pw_or (pt_cmpR op_isN (pv 1) pe_non (nomark _)) (pw_or1 (pt_val (pe_callB (k_isi K) (by rfl) B.n_isinstance (by decide +kernel) (pa_cons (pv 1) (pa_cons (pe_bltn (v := .ty "str") (u := .type "str") (by rfl) B.n_str (by decide +kernel) rfl) pa_nil))))))) (pss_one (ps_ret (pe_and (pe_cmpR (k_eqD K hr.units) (pv 0) (pv 1) (nomark _)) (pe_one (pe_cmpR op_eq (pe_callB (k_isi K) (by rfl) B.n_isinstance (by decide +kernel) (pa_cons (pv 0) (pa_cons (pe_bltn (v := .ty "str") (u := .type "str") (by rfl) B.n_str (by decide +kernel) rfl) pa_nil))) (pe_callB (k_isi K) (by rfl) B.n_isinstance (by decide +kernel) (pa_cons (pv 1) (pa_cons (pe_bltn (v := .ty "str") (u := .type "str") (by rfl) B.n_str (by decide +kernel) rfl) pa_nil))) (nomark _)))))) pss_nil)
 (pss_one (ps_ret (pe_and (pe_callB (k_isi K) (by rfl) B.n_isinstance (by decide +kernel) (pa_cons (pv 0) (pa_cons (pe_bltn (v := .ty "int") (u := .type "int") (by rfl) B.n_int (by decide +kernel) rfl) pa_nil))) (pe_and (pe_cmpR op_eq (pe_callB (k_isi K) (by rfl) B.n_isinstance (by decide +kernel) (pa_cons (pv 0) (pa_cons (pe_bltn (v := .ty "bool") (u := .type "bool") (by rfl) B.n_bool (by decide +kernel) rfl) pa_nil))) (pe_callB (k_isi K) (by rfl) B.n_isinstance (by decide +kernel) (pa_cons (pv 1) (pa_cons (pe_bltn (v := .ty "bool") (u := .type "bool") (by rfl) B.n_bool (by decide +kernel) rfl) pa_nil))) (nomark _)) (pe_one (pe_cmpR (k_eqD K hr.units) (pv 0) (pv 1) (nomark _))))))))), ?_⟩
      have tu := dp_ty du
      have tv := dp_ty dv
      obtain ⟨bt, bl, e1, e2, h1, h2⟩ : ∃ bt bl : Bool, kitB (tyD d) "tuple" = some bt ∧ kitB (tyD d) "list" = some bl ∧
          ((bt || bl) = true → ∃ (j : Nat) (ds : List PyData) (a b : Addr) (xs ys : List V), n = j + 1 ∧ u = .ref a ∧ v = .ref b ∧ ((SqL K H a xs ∧ SqL K H b ys) ∨ (SqT K H a xs ∧ SqT K H b ys)) ∧ DpAll K H xs ds ∧ DpAll K H ys ds ∧ ds.length ≤ 1000000 ∧ ∀ d ∈ ds, okD j d = true) ∧
          ((bt || bl) = false → SeqAt.shaped d = true ∧ ∃ b3 b4 b5 : Bool, kitB (tyD d) "str" = some b3 ∧ kitB (tyD d) "int" = some b4 ∧ kitB (tyD d) "bool" = some b5 ∧ ((decide (v = V.non) || b3) = false → b4 = true)) := by
        cases du with
        | non =>
          cases dv
          exact ⟨false, false, (show kitB "NoneType" "tuple" = some false by decide +kernel), (show kitB "NoneType" "list" = some false by decide +kernel), fun z => (nomatch z), fun _ => ⟨rfl, false, false, false, (show kitB "NoneType" "str" = some false by decide +kernel), (show kitB "NoneType" "int" = some false by decide +kernel), (show kitB "NoneType" "bool" = some false by decide +kernel), fun z => by simp at z⟩⟩
        | bl b => exact ⟨false, false, (show kitB "bool" "tuple" = some false by decide +kernel), (show kitB "bool" "list" = some false by decide +kernel), fun z => (nomatch z), fun _ => ⟨rfl, false, true, true, (show kitB "bool" "str" = some false by decide +kernel), (show kitB "bool" "int" = some true by decide +kernel), (show kitB "bool" "bool" = some true by decide +kernel), fun _ => rfl⟩⟩
        | int b => exact ⟨false, false, (show kitB "int" "tuple" = some false by decide +kernel), (show kitB "int" "list" = some false by decide +kernel), fun z => (nomatch z), fun _ => ⟨rfl, false, true, false, (show kitB "int" "str" = some false by decide +kernel), (show kitB "int" "int" = some true by decide +kernel), (show kitB "int" "bool" = some false by decide +kernel), fun _ => rfl⟩⟩
        | str b => exact ⟨false, false, (show kitB "str" "tuple" = some false by decide +kernel), (show kitB "str" "list" = some false by decide +kernel), fun z => (nomatch z), fun _ => ⟨by
            have z := okD_can n _ ok
            unfold SeqAt.shaped
            rw [z]
            rfl, true, false, false, (show kitB "str" "str" = some true by decide +kernel), (show kitB "str" "int" = some false by decide +kernel), (show kitB "str" "bool" = some false by decide +kernel), fun z => by simp at z⟩⟩
        | lst s1 a1 =>
          obtain ⟨b, ys, rfl, s2, a2⟩ := dp_lst dv
          cases n with
          | zero => simp [okD] at ok
          | succ j =>
            simp only [okD, Bool.and_eq_true, decide_eq_true_eq, List.all_eq_true] at ok
            exact ⟨false, true, (show kitB "list" "tuple" = some false by decide +kernel), (show kitB "list" "list" = some true by decide +kernel), fun _ => ⟨j, _, _, b, _, ys, rfl, rfl, rfl, .inl ⟨s1, s2⟩, a1, a2, ok.1, ok.2⟩, fun z => (nomatch z)⟩
        | tup s1 a1 =>
          obtain ⟨b, ys, rfl, s2, a2⟩ := dp_tup dv
          cases n with
          | zero => simp [okD] at ok
          | succ j =>
            simp only [okD, Bool.and_eq_true, decide_eq_true_eq, List.all_eq_true] at ok
            exact ⟨true, false, (show kitB "tuple" "tuple" = some true by decide +kernel), (show kitB "tuple" "list" = some false by decide +kernel), fun _ => ⟨j, _, _, b, _, ys, rfl, rfl, rfl, .inr ⟨s1, s2⟩, a1, a2, ok.1, ok.2⟩, fun z => (nomatch z)⟩
      -- isinstance(due, (tuple, list))
      refine ⟨_, rfl, by show 2 ≤ sizeLine; decide, fun p hp => ⟨v, p, _, _, _, bt || bl, rfl, upd_same, .cons (.ty _) (.cons (.ty _) .nil), (tv.same (same_new hp _)).ty, kit2 e1 e2, _, rfl, ?_⟩⟩
      have sp := same_new hp (HO.tup [V.ty "tuple", V.ty "list"])
      cases eb : (bt || bl) with
      | true =>
        obtain ⟨j, ds, a, b, xs, ys, rfl, rfl, rfl, hs, a1, a2, hl, hd⟩ := h1 eb
        have lx := dps_len a1
        have ly := dps_len a2
        refine ⟨_, rfl, by show 2 ≤ sizeLine; decide, fun p2 hp2 => ⟨.ref a, p2, _, _, _, bt || bl, rfl, upd_same, .cons (.ty _) (.cons (.ty _) .nil), ((tu.same sp).same (same_new hp2 _)).ty, kit2 e1 e2, _, rfl, ?_⟩⟩
        rw [eb]
        have s2 := sp.trans (same_new hp2 (HO.tup [V.ty "tuple", V.ty "list"]))
        revert s2
        generalize upd (upd H p (.tup [V.ty "tuple", V.ty "list"])) p2 (.tup [V.ty "tuple", V.ty "list"]) = H2
        intro s2
        have hx : SqL K H2 a xs ∨ SqT K H2 a xs := hs.elim (fun z => .inl (s2.seq z.1)) fun z => .inr (seqT s2 z.1)
        have hy : SqL K H2 b ys ∨ SqT K H2 b ys := hs.elim (fun z => .inl (s2.seq z.2)) fun z => .inr (seqT s2 z.2)
        refine ⟨_, rfl, _, _, _, _, bl, rfl, .ty _, (tu.same s2).ty, kit_any e2, _, rfl, _, _, _, _, bl, rfl, .ty _, (tv.same s2).ty, kit_any e2, by cases bl <;> rfl, !decide (V.bl bl = V.bl bl), rfl, ?_⟩
        rw [decide_eq_true rfl]
        refine ⟨_, rfl, a, xs, rfl, hx, _, rfl, b, ys, rfl, hy, rfl, !decide (V.int (xs.length : Nat) = V.int (ys.length : Nat)), rfl, ?_⟩
        rw [decide_eq_true (by rw [lx, ly])]
        refine ⟨_, rfl, b, ys, rfl, hy, _, rfl, by omega, by omega, fun D hD => lc_range (lo := 0) (n := ((ys.length : Nat) : Int).toNat) (fun i H' => Same H2 H' ∧ H' D = some (.lst [])) ⟨same_new hD _, upd_same⟩ ?_ ?_⟩
        · rintro i H3 hi ⟨s3, eD⟩
          have ix : i < xs.length := by omega
          have iy : i < ys.length := by omega
          obtain ⟨x, qx⟩ : ∃ x, xs[i]? = some x := ⟨_, List.getElem?_eq_getElem ix⟩
          obtain ⟨y, qy⟩ : ∃ y, ys[i]? = some y := ⟨_, List.getElem?_eq_getElem iy⟩
          obtain ⟨dd, qd, dx⟩ := dps_getV (dps_same (s2.trans s3) a1) qx
          obtain ⟨dd', qd', dy⟩ := dps_getV (dps_same (s2.trans s3) a2) qy
          have ed : dd = dd' := Option.some.inj (qd.symm.trans qd')
          subst ed
          have ix' : atI xs (0 + (i : Int)) = some x := by rw [Int.zero_add]; exact atI_nat qx
          have iy' : atI ys (0 + (i : Int)) = some y := by rw [Int.zero_add]; exact atI_nat qy
          refine ⟨rfl, ?_⟩
          have s23 := s2.trans s3
          refine ⟨_, rfl, _, rfl, ixQ_ok (seqQ s3 hx) ix' ⟨_, rfl, _, rfl, ixQ_ok (seqQ s3 hy) iy' ⟨x, y, dd, rfl, dx, dy, hd dd (List.mem_of_getElem? qd), fun H4 s4 => ⟨_, rfl, s3.trans s4, s4 _ _ eD⟩⟩⟩⟩
        · rintro H3 ⟨s3, eD⟩
          refine ⟨by show 0 ≤ sizeLine; decide, fun q hq => ⟨.list [], .list [], .lst (SqL.of (same_new hq _ _ _ eD)) .nil, .lst (SqL.of upd_same) .nil, rfl, rfl, k _ (s2.trans (s3.trans (same_new hq _)))⟩⟩
      | false =>
        obtain ⟨sh, b3, b4, b5, e3, e4, e5, alt⟩ := h2 eb
        have eqv : PyData.eqv d d = true := SeqAt.eqv_refl d (okD_can n d ok)
        have su := tu.same sp
        have sv := tv.same sp
        have dus := dp_same sp du
        have dvs := dp_same sp dv
        have fin : ∀ H', H' = upd H p (.tup [V.ty "tuple", V.ty "list"]) → Q (.bl true) H' := fun H' e => e ▸ k _ sp
        refine ⟨_, rfl, rfl, _, rfl, ?_⟩
        have way1 : ∀ (tt : TS) (D : Ends), tt = tt := fun _ _ => rfl
        by_cases hv : v = .non
        · subst hv
          cases dv
          cases du
          rw [decide_eq_true rfl]
          exact ⟨_, rfl, _, rfl, .none, .none, .non, .non, rfl, rfl, _, rfl, _, rfl, _, _, _, _, false, rfl, .ty _, (AnyV.non).ty, kit_any (show kitB "NoneType" "str" = some false by decide +kernel), _, rfl, _, _, _, _, false, rfl, .ty _, (AnyV.non).ty, kit_any (show kitB "NoneType" "str" = some false by decide +kernel), rfl, fin _ rfl⟩
        · rw [decide_eq_false hv]
          refine ⟨_, rfl, _, _, _, _, b3, rfl, .ty _, sv.ty, kit_any e3, _, rfl, ?_⟩
          cases b3 with
          | true =>
            refine ⟨_, rfl, _, rfl, d, d, dus, dvs, sh, sh, _, rfl, ?_⟩
            rw [eqv]
            refine ⟨_, rfl, _, _, _, _, true, rfl, .ty _, su.ty, kit_any e3, _, rfl, _, _, _, _, true, rfl, .ty _, sv.ty, kit_any e3, rfl, fin _ rfl⟩
          | false =>
            have e4' := alt (by rw [decide_eq_false hv]; rfl)
            subst e4'
            refine ⟨_, rfl, _, _, _, _, true, rfl, .ty _, su.ty, kit_any e4, _, rfl, ?_⟩
            refine ⟨_, rfl, _, _, _, _, b5, rfl, .ty _, su.ty, kit_any e5, _, rfl, _, _, _, _, b5, rfl, .ty _, sv.ty, kit_any e5, by cases b5 <;> rfl, _, rfl, ?_⟩
            rw [decide_eq_true rfl]
            refine ⟨_, rfl, _, rfl, d, d, dus, dvs, sh, sh, ?_⟩
            rw [eqv]
            exact fin _ rfl
/-! ### _law_step -/
def spLStep (K : PySem.W.Frag) : Sp := fun vs H Q _ => ∃ (v : V) (d : PyData) (n : Int), vs = [v, .int n] ∧ Dp K H v d ∧ Q (.bl (stepOk n d)) H
def isI : PyData → Bool
  | .int _ => true
  | _ => false
theorem kit_isI {K : PySem.W.Frag} {H : Hp} {v : V} {d : PyData} (h : Dp K H v d) : ∃ b1 b2 : Bool, kitB (tyD d) "int" = some b1 ∧ kitB (tyD d) "bool" = some b2 ∧ (!b1 || b2) = !isI d := by
  cases h with
  | non => exact ⟨false, false, (show kitB "NoneType" "int" = some false by decide +kernel), (show kitB "NoneType" "bool" = some false by decide +kernel), rfl⟩
  | bl b => exact ⟨true, true, (show kitB "bool" "int" = some true by decide +kernel), (show kitB "bool" "bool" = some true by decide +kernel), rfl⟩
  | int b => exact ⟨true, false, (show kitB "int" "int" = some true by decide +kernel), (show kitB "int" "bool" = some false by decide +kernel), rfl⟩
  | str b => exact ⟨false, false, (show kitB "str" "int" = some false by decide +kernel), (show kitB "str" "bool" = some false by decide +kernel), rfl⟩
  | lst _ _ => exact ⟨false, false, (show kitB "list" "int" = some false by decide +kernel), (show kitB "list" "bool" = some false by decide +kernel), rfl⟩
  | tup _ _ => exact ⟨false, false, (show kitB "tuple" "int" = some false by decide +kernel), (show kitB "tuple" "bool" = some false by decide +kernel), rfl⟩
theorem stepOk_no {n : Int} {d1 d2 d : PyData} (h : d ∈ [d1, d2]) (e : isI d = false) : stepOk n (.tuple [d1, d2]) = false := by
  have z : ∀ (m : Int) (q : PyData), isI q = false → belowD m q = false := fun m q hq => by cases q <;> first | rfl | cases hq
  rw [stepOk_two]
  simp only [List.mem_cons, List.not_mem_nil, or_false] at h
  rcases h with rfl | rfl
  · rw [z _ _ e]; rfl
  · rw [z _ _ e, Bool.and_false]
theorem ok_law_step {f : Addr} {fd : FuncData} (F : Fun K "_law_step" "_law_step" s__law_step f fd) (B : Blt mg) : FnOk P w K mg base CX0 1 f fd P__law_step (spLStep K) := by
  refine F.ok sc__law_step (fun vs H Q E h => ?_) (fun cdv A outer s H vs Q E hr h => ?_)
  · obtain ⟨v, d, n, rfl, _⟩ := h
    rfl
  · obtain ⟨v, d, n, rfl, dv, k⟩ := h
    refine ⟨_, (pss_cons (ps_if (pt_cmpR op_isN (pv 0) pe_non (nomark _)) (pss_one (ps_ret pe_bl)) pss_nil)
 (pss_cons (ps_if (PW.pt (pw_or (pt_not (pt_val (pe_callB (k_isi K) (by rfl) B.n_isinstance (by decide +kernel) (pa_cons (pv 0) (pa_cons (pe_bltn (v := .ty "tuple") (u := .type "tuple") (by rfl) B.n_tuple (by decide +kernel) rfl) pa_nil))))) (pw_or1 (pt_cmpR op_ne (pe_callB (k_len K) (by rfl) B.n_len boot_len (pa_cons (pv 0) pa_nil)) pe_int (nomark _))))) (pss_one (ps_ret pe_bl)) pss_nil)
 (pss_cons (ps_for PassesOwn.never rfl (k_pit K (pv 0)) (pg_name (i := 2) sc__law_step.nd rfl (Or.inl rfl))
 (pss_one (ps_if (PW.pt (pw_or (pt_not (pt_val (pe_callB (k_isi K) (by rfl) B.n_isinstance (by decide +kernel) (pa_cons (pv 2) (pa_cons (pe_bltn (v := .ty "int") (u := .type "int") (by rfl) B.n_int (by decide +kernel) rfl) pa_nil))))) (pw_or1 (pt_val (pe_callB (k_isi K) (by rfl) B.n_isinstance (by decide +kernel) (pa_cons (pv 2) (pa_cons (pe_bltn (v := .ty "bool") (u := .type "bool") (by rfl) B.n_bool (by decide +kernel) rfl) pa_nil))))))) (pss_one (ps_ret pe_bl)) pss_nil)))
 (pss_one (ps_ret (pe_and (pe_chain op_le op_lt pe_int (pe_ix (k_ixT K) (pv 0) pe_int (fun _ _ => rfl)) (pv 1)) (pe_one (pe_chain op_le op_le pe_int (pe_ix (k_ixT K) (pv 0) pe_int (fun _ _ => rfl)) pe_int)))))))), ?_⟩
    refine ⟨_, rfl, rfl, _, rfl, ?_⟩
    by_cases hv : v = .non
    · subst hv
      cases dv
      rw [decide_eq_true rfl]
      exact k
    rw [decide_eq_false hv]
    have tv := dp_ty dv
    obtain ⟨e1, e2⟩ | ⟨ds, rfl⟩ : (kitB (tyD d) "tuple" = some false ∧ stepOk n d = false) ∨ ∃ ds, d = .tuple ds := by
      cases dv with
      | non => exact absurd rfl hv
      | bl b => exact .inl ⟨(show kitB "bool" "tuple" = some false by decide +kernel), rfl⟩
      | int b => exact .inl ⟨(show kitB "int" "tuple" = some false by decide +kernel), rfl⟩
      | str b => exact .inl ⟨(show kitB "str" "tuple" = some false by decide +kernel), rfl⟩
      | lst _ _ => exact .inl ⟨(show kitB "list" "tuple" = some false by decide +kernel), rfl⟩
      | tup _ _ => exact .inr ⟨_, rfl⟩
    · refine ⟨_, rfl, _, _, _, _, false, rfl, .ty _, tv.ty, kit_any e1, _, rfl, ?_⟩
      rw [e2] at k
      exact k
    · obtain ⟨a, xs, rfl, sx, al⟩ := dp_tup dv
      have lx := dps_len al
      refine ⟨_, rfl, _, _, _, _, true, rfl, .ty _, tv.ty, kit_any (show kitB "tuple" "tuple" = some true by decide +kernel), _, rfl, _, rfl, a, xs, rfl, .inr sx, rfl, _, rfl, ?_⟩
      by_cases h2 : xs.length = 2
      · have e : decide (V.int ((xs.length : Nat) : Int) = V.int 2) = true := decide_eq_true (by rw [h2]; rfl)
        rw [e]
        obtain ⟨d1, d2, rfl⟩ := len_two (lx.symm.trans h2)
        cases al with
        | cons q1 al =>
          cases al with
          | cons q2 al =>
            cases al
            rename_i x1 x2
            refine ⟨_, rfl, a, rfl, ⟨_, sx⟩, for_tup (K := K) (a := a) (xs := [x1, x2]) (fun i σ H' => H' = H ∧ (∀ j d, j < i → [d1, d2][j]? = some d → isI d = true) ∧ ∃ u, σ = [some (.ref a), some (.int n), u]) ⟨rfl, fun j d h => absurd h (Nat.not_lt_zero j), none, rfl⟩ (fun i σ H' _ ⟨e, _⟩ => by rw [e]; exact sx) ?_ ?_⟩
            · rintro i x σ H' hx ⟨rfl, good, u, rfl⟩
              obtain ⟨dd, hd, dx⟩ := dps_getV (.cons q1 (.cons q2 .nil)) hx
              obtain ⟨b1, b2, k1, k2, kk⟩ := kit_isI dx
              have ty := dp_ty dx
              refine ⟨_, rfl, _, _, _, _, b1, rfl, .ty _, ty.ty, kit_any k1, _, rfl, ?_⟩
              have no : isI dd = false → Q (.bl false) H' := fun z => by
                rw [stepOk_no (List.mem_of_getElem? hd) z] at k
                exact k
              cases b1 with
              | false => exact no (by simpa using kk)
              | true =>
                refine ⟨_, rfl, _, _, _, _, b2, rfl, .ty _, ty.ty, kit_any k2, _, rfl, ?_⟩
                cases b2 with
                | true => exact no (by simpa using kk)
                | false =>
                  refine ⟨rfl, fun j d hj hd' => ?_, _, rfl⟩
                  rcases Nat.lt_or_eq_of_le (Nat.le_of_lt_succ hj) with hj | rfl
                  · exact good j d hj hd'
                  · rw [hd] at hd'
                    cases hd'
                    simpa using kk
            · rintro σ H' ⟨rfl, good, u, rfl⟩
              have g1 := good 0 d1 (show 0 < 2 by decide) rfl
              have g2 := good 1 d2 (show 1 < 2 by decide) rfl
              obtain ⟨i, rfl⟩ : ∃ i, d1 = .int i := by cases d1 <;> first | exact ⟨_, rfl⟩ | cases g1
              obtain ⟨j, rfl⟩ : ∃ i, d2 = .int i := by cases d2 <;> first | exact ⟨_, rfl⟩ | cases g2
              obtain rfl := dp_int q1
              obtain rfl := dp_int q2
              have ek : stepOk n (.tuple [.int i, .int j]) = ((decide (0 ≤ i) && decide (i < n)) && (decide (0 ≤ j) && decide (j ≤ 3))) := by
                rw [stepOk_two]
                show ((decide (0 ≤ i) && decide (i < n)) && (decide (0 ≤ j) && decide (j < 4))) = _
                rw [show decide (j < 4) = decide (j ≤ 3) by rw [decide_eq_decide]; omega]
              rw [ek] at k
              refine ⟨_, rfl, a, _, _, _, rfl, rfl, sx, rfl, _, _, rfl, rfl, _, rfl, ?_⟩
              cases e1 : decide (0 ≤ i) with
              | false => rw [e1] at k; exact ⟨_, rfl, k⟩
              | true =>
                rw [e1] at k
                refine ⟨_, rfl, _, _, rfl, rfl, _, rfl, ?_⟩
                cases e2 : decide (i < n) with
                | false => rw [e2] at k; exact k
                | true =>
                  rw [e2] at k
                  refine ⟨_, rfl, a, _, _, _, rfl, rfl, sx, rfl, _, _, rfl, rfl, _, rfl, ?_⟩
                  cases e3 : decide (0 ≤ j) with
                  | false => rw [e3] at k; exact k
                  | true =>
                    rw [e3] at k
                    exact ⟨_, _, rfl, rfl, k⟩
      · have e : decide (V.int ((xs.length : Nat) : Int) = V.int 2) = false := decide_eq_false (fun z => h2 (by have := V.int.inj z; omega))
        rw [e]
        rw [stepOk_long (fun z => h2 (lx.trans z))] at k
        exact k
/-! ### _law_fault -/
def faultD : Option (Option Nat) → PyData
  | none => .none
  | some none => .list [.none]
  | some (some i) => .list [.int (i : Nat)]
mutual
theorem okD_depth : ∀ (n : Nat) (d : PyData), okD n d = true → d.depth ≤ n
  | _, .none, _ => Nat.zero_le _
  | _, .bool _, _ => Nat.zero_le _
  | _, .int _, _ => Nat.zero_le _
  | _, .str _, _ => Nat.zero_le _
  | 0, .list ds, h => by simp [okD] at h
  | 0, .tuple ds, h => by simp [okD] at h
  | 0, .dict ds, h => by simp [okD] at h
  | n + 1, .dict ds, h => by simp [okD] at h
  | n + 1, .list ds, h => by
    simp only [okD, Bool.and_eq_true] at h
    exact Nat.succ_le_succ (okD_depthAll n ds h.2)
  | n + 1, .tuple ds, h => by
    simp only [okD, Bool.and_eq_true] at h
    exact Nat.succ_le_succ (okD_depthAll n ds h.2)
theorem okD_depthAll : ∀ (n : Nat) (ds : List PyData), ds.all (okD n) = true → PyData.depthAll ds ≤ n
  | _, [], _ => Nat.zero_le _
  | n, d :: ds, h => by
    simp only [List.all_cons, Bool.and_eq_true] at h
    exact Nat.max_le.mpr ⟨okD_depth n d h.1, okD_depthAll n ds h.2⟩
end
theorem okD_shaped {n : Nat} {d : PyData} (hn : n ≤ 64) (h : okD n d = true) : SeqAt.shaped d = true := by
  unfold SeqAt.shaped
  rw [okD_can n d h, decide_eq_true (Nat.le_trans (okD_depth n d h) hn)]
  rfl
theorem rowOk_tuple {n : Int} {ds : List PyData} : rowOk n (.tuple ds) = ((decide (ds.length = 2) || decide (ds.length = 3)) && ds.all (stepOk n)) := rfl
def spLFault (K : PySem.W.Frag) : Sp := fun vs H Q _ => ∃ (v : V) (d : PyData), vs = [v] ∧ Dp K H v d ∧ okD 3 d = true ∧ ∀ u H', Same H H' → Dp K H' u (faultD (tabFault d)) → Q u H'
theorem ok_law_fault {f : Addr} {fd : FuncData} (F : Fun K "_law_fault" "_law_fault" s__law_fault f fd) (B : Blt mg) (G__law_step : DefK P w K mg base CX0 1 "_law_step" P__law_step (spLStep K)) : FnOk P w K mg base CX0 2 f fd P__law_fault (spLFault K) := by
  refine F.ok sc__law_fault (fun vs H Q E h => ?_) (fun cdv A outer s H vs Q E hr h => ?_)
  · obtain ⟨v, d, rfl, _⟩ := h
    rfl
  · obtain ⟨v, d, rfl, dv, ok, k⟩ := h
    refine ⟨_, (pss_cons (ps_if (PW.pt (pw_or (pt_not (pt_val (pe_callB (k_isi K) (by rfl) B.n_isinstance (by decide +kernel) (pa_cons (pv 0) (pa_cons (pe_bltn (v := .ty "tuple") (u := .type "tuple") (by rfl) B.n_tuple (by decide +kernel) rfl) pa_nil))))) (pw_or1 (pt_not (pt_chain op_le op_le pe_int (pe_callB (k_len K) (by rfl) B.n_len boot_len (pa_cons (pv 0) pa_nil)) pe_int))))) (pss_one (ps_ret (pe_lst (pa_cons pe_non pa_nil)))) pss_nil)
 (pss_cons (ps_for PassesOwn.never rfl (pi_range1 (by rfl) B.n_range (pa_cons (pe_callB (k_len K) (by rfl) B.n_len boot_len (pa_cons (pv 0) pa_nil)) pa_nil)) (pg_name (i := 1) sc__law_fault.nd rfl (Or.inl rfl))
 (pss_cons (ps_set (i := 2) sc__law_fault.nd rfl (Or.inl rfl) (pe_ix (k_ixT K) (pv 0) (pv 1) (fun _ _ => rfl)))
 (pss_cons (ps_if (PW.pt (pw_or (pt_not (pt_val (pe_callB (k_isi K) (by rfl) B.n_isinstance (by decide +kernel) (pa_cons (pv 2) (pa_cons (pe_bltn (v := .ty "tuple") (u := .type "tuple") (by rfl) B.n_tuple (by decide +kernel) rfl) pa_nil))))) (pw_or (pt_cmpR (k_notIn K) (pe_callB (k_len K) (by rfl) B.n_len boot_len (pa_cons (pv 2) pa_nil)) (pe_lst (pa_cons pe_int (pa_cons pe_int pa_nil))) (by rfl)) (pw_or1 (pt_cmpR op_ne (pe_callB (k_len K) (by rfl) B.n_len boot_len (pa_cons (pv 2) pa_nil)) (pe_callB (k_len K) (by rfl) B.n_len boot_len (pa_cons (pe_ix (k_ixT K) (pv 0) pe_int (fun _ _ => rfl)) pa_nil)) (nomark _)))))) (pss_one (ps_ret (pe_lst (pa_cons (pv 1) pa_nil)))) pss_nil)
 (pss_one (ps_if (pt_cmpR (k_neD K hr.units) (pe_lc (own := ([("_law_step_here", 3)] : List (Str × Nat))) (g := gName 3) rfl sc__law_fault.nd (k_pit K (pv 2)) (blkOk_by (own := ([("_law_step_here", 3)] : List (Str × Nat))) (N := N__law_fault) (sc := defScope s__law_fault) (by decide +kernel)) (fun _ _ _ _ _ => by exact (pg_name (i := 3) sc__law_fault.nd rfl (Or.inl rfl))) (fun _ _ _ _ _ => by exact (pts_one (pt_not (pt_val (pe_def G__law_step (hr.mono (by omega)) (by rfl) (pa_cons (pv 3) (pa_cons (pe_callB (k_len K) (by rfl) B.n_len boot_len (pa_cons (pv 0) pa_nil)) pa_nil))))))) (fun _ _ _ _ _ => by exact (pv 3))) (pe_lst pa_nil) (nomark _)) (pss_one (ps_ret (pe_lst (pa_cons (pv 1) pa_nil)))) pss_nil)))))
 (pss_one (ps_ret pe_non)))), ?_⟩
    have tv := dp_ty dv
    have H0 := Same.refl H
    have none1 : ∀ (H' : Hp) (L : Addr), Same H H' → H' L = none → tabFault d = some none → Q (.ref L) (upd H' L (.lst [.non])) := fun H' L s' hL e => k _ _ (s'.trans (same_new hL _)) (by rw [e]; exact .lst (SqL.of upd_same) (.cons .non .nil))
    obtain ⟨e1, e2⟩ | ⟨ds, rfl⟩ : (kitB (tyD d) "tuple" = some false ∧ tabFault d = some none) ∨ ∃ ds, d = .tuple ds := by
      cases dv with
      | non => exact .inl ⟨(show kitB "NoneType" "tuple" = some false by decide +kernel), rfl⟩
      | bl b => exact .inl ⟨(show kitB "bool" "tuple" = some false by decide +kernel), rfl⟩
      | int b => exact .inl ⟨(show kitB "int" "tuple" = some false by decide +kernel), rfl⟩
      | str b => exact .inl ⟨(show kitB "str" "tuple" = some false by decide +kernel), rfl⟩
      | lst _ _ => exact .inl ⟨(show kitB "list" "tuple" = some false by decide +kernel), rfl⟩
      | tup _ _ => exact .inr ⟨_, rfl⟩
    · exact ⟨_, rfl, _, _, _, _, false, rfl, .ty _, tv.ty, kit_any e1, _, rfl, by show 1 ≤ sizeLine; decide, fun L hL => none1 H L H0 hL e2⟩
    · obtain ⟨a, xs, rfl, sx, al⟩ := dp_tup dv
      have lx := dps_len al
      refine ⟨_, rfl, _, _, _, _, true, rfl, .ty _, tv.ty, kit_any (show kitB "tuple" "tuple" = some true by decide +kernel), _, rfl, _, rfl, a, xs, rfl, .inr sx, _, _, rfl, rfl, _, rfl, ?_⟩
      cases c1 : decide ((1 : Int) ≤ ((xs.length : Nat) : Int)) with
      | false =>
        have z : tabFault (.tuple ds) = some none := by
          have := of_decide_eq_false c1
          exact if_neg (by omega)
        exact ⟨_, rfl, by show 1 ≤ sizeLine; decide, fun L hL => none1 H L H0 hL z⟩
      | true =>
        refine ⟨_, _, rfl, rfl, _, rfl, ?_⟩
        cases c2 : decide (((xs.length : Nat) : Int) ≤ 6) with
        | false =>
          have z : tabFault (.tuple ds) = some none := by
            have := of_decide_eq_false c2
            exact if_neg (by omega)
          exact ⟨by show 1 ≤ sizeLine; decide, fun L hL => none1 H L H0 hL z⟩
        | true =>
          have lo := of_decide_eq_true c1
          have hi := of_decide_eq_true c2
          have ez : tabFault (.tuple ds) = (rowsFault ds).map some := if_pos (by omega)
          have okr : ∀ x ∈ ds, okD 2 x = true := by
            have := ok
            simp only [okD, Bool.and_eq_true, List.all_eq_true] at this
            exact this.2
          refine ⟨_, rfl, a, xs, rfl, .inr sx, _, rfl, by omega, by omega, for_range (lo := 0) (n := ((xs.length : Nat) : Int).toNat) (fun i σ H' => Same H H' ∧ (∀ (j : Nat) (d : PyData), j < i → ds[j]? = some d → badRow ds.length (ds.headD .none) d = false) ∧ ∃ u1 u2, σ = [some (.ref a), u1, u2, none])
            ⟨Same.refl H, fun j d hj => absurd hj (Nat.not_lt_zero j), none, none, rfl⟩ ?_ ?_⟩
          · rintro i σ H1 hi' ⟨s1, good, u1, u2, rfl⟩
            have il : i < ds.length := by omega
            obtain ⟨d, hd⟩ : ∃ d, ds[i]? = some d := ⟨_, List.getElem?_eq_getElem il⟩
            obtain ⟨x, hx, dx⟩ := dps_get (dps_same s1 al) hd
            have ty := dp_ty dx
            have ix : atI xs (0 + (i : Int)) = some x := by rw [Int.zero_add]; exact atI_nat hx
            have bad : badRow ds.length (ds.headD .none) d = true → ∀ H' L, Same H H' → H' L = none → Q (.ref L) (upd H' L (.lst [.int (0 + (i : Int))])) := fun hb H' L s' hL => by
              refine k _ _ (s'.trans (same_new hL _)) ?_
              have e : rowsFault ds = some i := findIdx_at hd hb good
              rw [ez, e, Int.zero_add]
              exact .lst (SqL.of upd_same) (.cons (.int _) .nil)
            refine ⟨_, rfl, _, rfl, a, xs, _, x, rfl, rfl, seqT s1 sx, ix, ?_⟩
            obtain ⟨e1, e2⟩ | ⟨rs, rfl⟩ : (kitB (tyD d) "tuple" = some false ∧ rowOk ds.length d = false) ∨ ∃ rs, d = .tuple rs := by
              cases dx with
              | non => exact .inl ⟨(show kitB "NoneType" "tuple" = some false by decide +kernel), rfl⟩
              | bl b => exact .inl ⟨(show kitB "bool" "tuple" = some false by decide +kernel), rfl⟩
              | int b => exact .inl ⟨(show kitB "int" "tuple" = some false by decide +kernel), rfl⟩
              | str b => exact .inl ⟨(show kitB "str" "tuple" = some false by decide +kernel), rfl⟩
              | lst _ _ => exact .inl ⟨(show kitB "list" "tuple" = some false by decide +kernel), rfl⟩
              | tup _ _ => exact .inr ⟨_, rfl⟩
            · exact ⟨_, rfl, _, _, _, _, false, rfl, .ty _, ty.ty, kit_any e1, _, rfl, _, rfl, by show 1 ≤ sizeLine; decide, fun L hL => bad (by unfold badRow; rw [e2]; rfl) H1 L s1 hL⟩
            · obtain ⟨b, ys, rfl, sb, bl⟩ := dp_tup dx
              have lb := dps_len bl
              refine ⟨_, rfl, _, _, _, _, true, rfl, .ty _, ty.ty, kit_any (show kitB "tuple" "tuple" = some true by decide +kernel), _, rfl, _, rfl, b, ys, rfl, .inr sb, by show 2 ≤ sizeLine; decide, fun L hL => ⟨L, _, rfl, .inl (SqL.of upd_same), rfl, rfl, _, rfl, ?_⟩⟩
              have s12 := same_new hL (HO.lst [V.int 2, V.int 3])
              revert s12
              generalize upd H1 L (.lst [.int 2, .int 3]) = H2
              intro s12
              have s2 := s1.trans s12
              have inv : inV (.int ((ys.length : Nat) : Int)) [.int 2, .int 3] = (decide (rs.length = 2) || decide (rs.length = 3)) := by
                rw [Bool.eq_iff_iff]
                simp [inV, eqV, lb]
                omega
              rw [inv]
              cases eb : (decide (rs.length = 2) || decide (rs.length = 3)) with
              | false =>
                exact ⟨_, rfl, by show 1 ≤ sizeLine; decide, fun L hL => bad (by unfold badRow; rw [rowOk_tuple, eb]; rfl) H2 L s2 hL⟩
              | true =>
                obtain ⟨rs0, h0⟩ : ∃ rs0, ds[0]? = some (.tuple rs0) := by
                  cases i with
                  | zero => exact ⟨rs, hd⟩
                  | succ i =>
                    obtain ⟨d0, h0⟩ : ∃ d0, ds[0]? = some d0 := ⟨_, List.getElem?_eq_getElem (by omega)⟩
                    have g0 := good 0 d0 (Nat.succ_pos i) h0
                    cases e0 : rowOk ds.length d0 with
                    | false => unfold badRow at g0; rw [e0] at g0; exact absurd g0 (by simp)
                    | true =>
                      obtain ⟨rs0, rfl⟩ := rowOk_tup e0
                      exact ⟨rs0, h0⟩
                have hh : ds.headD .none = .tuple rs0 := by
                  cases ds with
                  | nil => cases h0
                  | cons a l => exact Option.some.inj h0
                obtain ⟨x0, hx0, dx0⟩ := dps_get (dps_same s2 al) h0
                obtain ⟨b0, ys0, rfl, sb0, bl0⟩ := dp_tup dx0
                have lb0 := dps_len bl0
                have ro : rowOk ds.length (.tuple rs) = rs.all (stepOk ds.length) := by rw [rowOk_tuple, eb]; rfl
                have ebr : badRow ds.length (ds.headD .none) (.tuple rs) = (!(rs.all (stepOk ds.length)) || decide (rs.length ≠ rs0.length)) := by
                  unfold badRow
                  rw [ro, hh]
                  rfl
                refine ⟨_, rfl, b, ys, rfl, .inr (seqT s12 sb), _, rfl, a, xs, _, _, rfl, rfl, seqT s2 sx, atI_nat hx0, b0, ys0, rfl, .inr sb0, ?_⟩
                refine ⟨rfl, _, rfl, ?_⟩
                by_cases q : rs.length = rs0.length
                · rw [decide_eq_true (by rw [lb, lb0, q])]
                  refine ⟨_, rfl, b, rfl, ⟨_, seqT s12 sb⟩, fun D hD => lc_tup (K := K) (a := b) (xs := ys) (fun j H' => Same H2 H' ∧ ∃ acc, H' D = some (.lst acc) ∧ acc.length ≤ j ∧ DpAll K H2 acc ((rs.take j).filter fun d => !stepOk ds.length d)) ⟨same_new hD _, [], upd_same, Nat.le_refl _, .nil⟩ (fun j H' _ z => seqT z.1 (seqT s12 sb)) ?_ ?_⟩
                  · rintro j y H3 hy ⟨s3, acc, eD, la, da⟩
                    obtain ⟨dd, hdd, dy⟩ := dps_getV (dps_same s12 bl) hy
                    refine ⟨rfl, _, rfl, _, rfl, a, xs, rfl, .inr (seqT (s2.trans s3) sx), y, dd, _, rfl, dp_same s3 dy, _, rfl, ?_⟩
                    rw [lx, take_more hdd, List.filter_append]
                    cases es : stepOk ds.length dd with
                    | true =>
                      refine ⟨s3, acc, eD, by omega, ?_⟩
                      rw [List.filter_cons_of_neg (by rw [es]; decide), List.filter_nil, List.append_nil]
                      exact da
                    | false =>
                      refine ⟨_, rfl, acc, eD, small1000 (by have := eb; have := (List.getElem?_eq_some_iff.mp hdd).1; simp at eb; omega), fun c o e => by rw [upd_ne (ne_of_none e hD)]; exact s3 c o e, acc ++ [y], upd_same, by rw [List.length_append]; exact Nat.succ_le_succ la, ?_⟩
                      rw [List.filter_cons_of_pos (by rw [es]; rfl), List.filter_nil]
                      exact dps_snoc da dy
                  · rintro H3 ⟨s3, acc, eD, la, da⟩
                    rw [lb, List.take_length] at da
                    refine ⟨by show 0 ≤ sizeLine; decide, fun q2 hq => ⟨.list (rs.filter fun d => !stepOk ds.length d), .list [], .lst (SqL.of (same_new hq _ _ _ eD)) (dps_same (s3.trans (same_new hq _)) da), .lst (SqL.of upd_same) .nil, ?_, rfl, _, rfl, ?_⟩⟩
                    · have o3 := okr _ (List.mem_of_getElem? hd)
                      simp only [okD, Bool.and_eq_true, List.all_eq_true, decide_eq_true_eq] at o3
                      refine okD_shaped (n := 2) (by decide) ?_
                      simp only [okD, Bool.and_eq_true, List.all_eq_true, decide_eq_true_eq]
                      exact ⟨Nat.le_trans (List.length_filter_le _ _) o3.1, fun z hz => o3.2 z (List.mem_filter.mp hz).1⟩
                    · cases ea : rs.all (stepOk ds.length) with
                      | true =>
                        have en : (rs.filter fun d => !stepOk ds.length d) = [] := by
                          rw [List.filter_eq_nil_iff]
                          intro z hz
                          rw [List.all_eq_true] at ea
                          rw [ea z hz]
                          decide
                        rw [en]
                        refine ⟨s2.trans (s3.trans (same_new hq _)), fun j d hj hd' => ?_, _, _, rfl⟩
                        rcases Nat.lt_or_eq_of_le (Nat.le_of_lt_succ hj) with hj | rfl
                        · exact good j d hj hd'
                        · rw [hd] at hd'
                          cases hd'
                          rw [ebr, ea, decide_eq_false (fun z => z q)]
                          rfl
                      | false =>
                        have en : ∃ z zs, (rs.filter fun d => !stepOk ds.length d) = z :: zs := by
                          cases ef : (rs.filter fun d => !stepOk ds.length d) with
                          | cons z zs => exact ⟨z, zs, rfl⟩
                          | nil =>
                            rw [List.filter_eq_nil_iff] at ef
                            exact absurd ea (by
                              rw [show rs.all (stepOk ds.length) = true from List.all_eq_true.mpr fun z hz => by simpa using ef z hz]
                              decide)
                        obtain ⟨z, zs, en⟩ := en
                        rw [en]
                        exact ⟨_, rfl, by show 1 ≤ sizeLine; decide, fun L hL => bad (by rw [ebr, ea]; rfl) _ L (s2.trans (s3.trans (same_new hq _))) hL⟩
                · rw [decide_eq_false (by rw [lb, lb0]; exact fun z => q (by first | exact Int.ofNat.inj z | exact Int.ofNat.inj (L2.V.int.inj z)))]
                  exact ⟨_, rfl, by show 1 ≤ sizeLine; decide, fun L hL => bad (by rw [ebr, decide_eq_true q, Bool.or_true]) H2 L s2 hL⟩
          · rintro σ H1 ⟨s1, good, u1, u2, rfl⟩
            refine k _ H1 s1 ?_
            rw [ez]
            have : rowsFault ds = none := findIdx_no (fun j d hd => good j d (by have := (List.getElem?_eq_some_iff.mp hd).1; omega) hd)
            rw [this]
            exact .non
/-! ### _law_tried -/
section
variable {C CB CS : Addr}
theorem mk_sameX {H : Hp} (C : Addr) {x dx : Addr} (nx : H x = none) (nd : H dx = none) (ne : dx ≠ x) : Same H (upd (upd H dx (.own x)) x (.ins C dx [])) := (same_new nd _).trans (same_new (by rw [upd_ne ne.symm]; exact nx) _)
def spTried (K : PySem.W.Frag) (C : Addr) : Sp := fun vs H Q _ => ∃ (v : V) (d : PyData), vs = [v] ∧ Dp K H v d ∧
  (∀ t m, Good t m → d = tabD t → ∀ p H' dx, Same H H' → H' p = some (.ins C dx [("_table", v)]) → Dp K H' v d → Q (.ref p) H') ∧
  ∀ z, tabFault d = some z → ∀ u H', Same H H' → Dp K H' u (faultD (some z)) → Q u H'
theorem ok_law_tried {f : Addr} {fd : FuncData} (F : Fun K "_law_tried" "_law_tried" s__law_tried f fd) (B : Blt mg) {fB : Addr} (x_BadTable : PySem.BadX.BadTxt P K mg "BadTable" "BadTable.__init__" CB fB)
    (ex_BadTable : ExcC K CB) (g_StandError : mg "StandError" = some (.ref CS)) (kit : PySem.W.kitOne K (.ref CB) (.ref CS) = some true)
    (m_Machine : MkK P w K mg base (L2.CX P w) 5 C "Machine" P_Machine_init (spMInitX K C CB)) : FnOk P w K mg base CX0 8 f fd P__law_tried (spTried K C) := by
  refine F.ok sc__law_tried (fun vs H Q E h => ?_) (fun cdv A outer s H vs Q E hr h => ?_)
  · obtain ⟨v, d, rfl, _⟩ := h
    rfl
  · obtain ⟨v, d, rfl, dv, k, kF⟩ := h
    have nd := sc__law_tried.nd
    refine ⟨_, pss_cons (ps_set (i := 1) nd rfl (Or.inl rfl) pe_non)
      (pss_cons (ps_try_as (i := 2) (tb := fun W => tAsg (tMakeS C (spMInitX K C CB) (WE W) (tCons (tVar 0) tNil)) (gName 1)) (ts := fun a cls d => tAsg (tIf (tTest (tCB (rIsX K CB a cls d) (tCons (tVar 2) (tCons (tC (.ref CS)) tNil)))) (tLst (tCons (tIndexOf CB a cls d (tVar 2)) tNil)) (tLst tNil)) (gName 1)) (Wout := fun _ _ _ _ => False) rfl rfl nd rfl rfl ⟨rfl, by decide, Or.inl x_BadTable.gC⟩ takes0
        (fun W pn xe tk _ => pss_one (ps_set (i := 1) nd rfl (Or.inl rfl) (by exact (pe_mkX m_Machine (hr.mono (by omega)) (by rfl) tk (by exact (pa_cons (pv 0) pa_nil))))))
        (fun a oe cls d pn hz hf => pss_one (ps_set (i := 1) nd rfl (Or.inl rfl) (by exact (pe_ifExp (pt_val (pe_callB (call_isX ex_BadTable hz hf) (by rfl) B.n_isinstance (by decide +kernel) (by exact (pa_cons (pv 2) (pa_cons (pe_gR (by rfl) g_StandError) pa_nil))))) (pe_lst (pa_cons (pe_indexOf x_BadTable hz hf (pv 2)) pa_nil)) (pe_lst pa_nil))))))
      (pss_one (ps_ret (pv 1)))), ?_⟩
    refine ⟨_, rfl, fun p dx hp hdx ne => ?_⟩
    have sm := mk_sameX C hp hdx ne
    refine ⟨p, dx, v, d, rfl, upd_same, dp_same sm dv, fun t m g e H' dx' hp' dv' keep => ?_, fun z ez H' e s' he => ⟨true, x_BadTable.te, fun _ a ha => ?_, fun q => Bool.noConfusion q⟩⟩
    · refine ⟨rfl, _, rfl, k t m g e p H' dx' (fun b o eb => ?_) hp' dv'⟩
      exact keep b o (ne_of_none eb hp) (sm b o eb)
    · have s2 := sm.trans (s'.trans (same_new he (HO.xd [("index", idxV z)])))
      refine ⟨_, rfl, .ref CS, .ref CS, true, e, _, rfl, (fun u r => r), rfl, rfl, upd_same, kit, _, rfl, ?_⟩
      refine ⟨_, rfl, rfl, rfl, e, idxV z, rfl, upd_same, by show 1 ≤ sizeLine; decide, fun L hL => ?_⟩
      refine ⟨_, rfl, kF z ez _ _ (s2.trans (same_new hL _)) ?_⟩
      cases z with
      | none => exact .lst (SqL.of upd_same) (.cons .non .nil)
      | some i => exact .lst (SqL.of upd_same) (.cons (.int _) .nil)
end
/-! ### Machine == -/
section
variable {C : Addr}
theorem eqvAll_map {α : Type} {f : α → PyData} {x y : α → Bool} [DecidableEq α] (h : ∀ a b, PyData.eqv (f a) (f b) = decide (a = b)) : ∀ r q : List α, PyData.eqvAll (r.map f) (q.map f) = decide (r = q)
  | [], [] => rfl
  | [], _ :: _ => rfl
  | _ :: _, [] => rfl
  | a :: r, b :: q => by
    show (PyData.eqv (f a) (f b) && PyData.eqvAll (r.map f) (q.map f)) = _
    rw [h, eqvAll_map (x := x) (y := y) h r q, Bool.eq_iff_iff]
    simp
theorem eqv_step (a b : Stp) : PyData.eqv (stepD a) (stepD b) = decide (a = b) := by
  cases a with
  | none =>
    cases b with
    | none => rfl
    | some b => rfl
  | some a =>
    cases b with
    | none => rfl
    | some b =>
      obtain ⟨a1, a2⟩ := a
      obtain ⟨b1, b2⟩ := b
      show (((a1 : Int) == (b1 : Int)) && (((a2 : Int) == (b2 : Int)) && true)) = _
      rw [Bool.eq_iff_iff]
      simp
      constructor
      · rintro ⟨h1, h2⟩
        exact ⟨Int.ofNat.inj h1, Int.ofNat.inj h2⟩
      · rintro ⟨rfl, rfl⟩
        exact ⟨rfl, rfl⟩
theorem eqv_tab (t u : Tab) : PyData.eqv (tabD t) (tabD u) = decide (t = u) :=
  eqvAll_map (x := fun _ => true) (y := fun _ => true) (f := rowD) (fun r q => eqvAll_map (x := fun _ => true) (y := fun _ => true) eqv_step r q) t u
theorem okD_step (s : Stp) : okD 1 (stepD s) = true := by
  cases s with
  | none => rfl
  | some p => obtain ⟨a, b⟩ := p; rfl
theorem okD_tab {t : Tab} {m : Nat} (g : Good t m) : okD 3 (tabD t) = true := by
  have := g.hi
  unfold tabD
  simp only [okD, Bool.and_eq_true, List.all_eq_true, decide_eq_true_eq, List.length_map]
  refine ⟨by omega, fun d hd => ?_⟩
  obtain ⟨r, hr, rfl⟩ := List.mem_map.mp hd
  have e := g.rows r hr
  have := g.lets
  unfold rowD
  simp only [okD, Bool.and_eq_true, List.all_eq_true, decide_eq_true_eq, List.length_map]
  refine ⟨by omega, fun d hd => ?_⟩
  obtain ⟨s, _, rfl⟩ := List.mem_map.mp hd
  exact okD_step s
def spMEq (K : PySem.W.Frag) (C : Addr) : Sp := fun vs H Q _ => ∃ (p q : Addr) (t : Tab) (m : Nat), vs = [.ref p, .ref q] ∧ Mach K C H p t ∧ Good t m ∧
  ((∃ u m', Mach K C H q u ∧ Good u m' ∧ Q (.bl (decide (t = u))) H) ∨ ∃ ys, SqT K H q ys ∧ Q (.bl false) H)
theorem ok_Machine_eq {f : Addr} {fd : FuncData} (F : Fun K "__eq__" "Machine.__eq__" s_Machine_eq f fd) (T : Txt K C) (B : Blt mg) (I : InsC K C) (g_Machine : mg "Machine" = some (.ref C)) : FnOk P w K mg base CX0 1 f fd P_Machine_eq (spMEq K C) := by
  refine F.ok sc_Machine_eq (fun vs H Q E h => ?_) (fun cdv A outer s H vs Q E hr h => ?_)
  · obtain ⟨p, q, t, m, rfl, _⟩ := h
    rfl
  · obtain ⟨p, q, t, m, rfl, ⟨dx, v, hp, dv⟩, g, k⟩ := h
    refine ⟨_, (pss_one (ps_ret (pe_and (pe_callB (k_isi K) (by rfl) B.n_isinstance (by decide +kernel) (pa_cons (pv 1) (pa_cons (pe_gR (by rfl) g_Machine) pa_nil))) (pe_one (pe_cmpR (k_eqD K hr.units) (pe_fld (pv 0) rfl) (pe_fld (pv 1) rfl) (nomark _)))))), ?_⟩
    rcases k with ⟨u, m', ⟨dy, v', hq, dv'⟩, g', k⟩ | ⟨ys, sy, k⟩
    · refine ⟨_, rfl, _, _, _, _, true, rfl, .own C, I.ty hq, I.me, _, rfl, ?_⟩
      refine ⟨_, rfl, p, C, dx, _, v, rfl, hp, T.cl, T.nT, rfl, _, rfl, q, C, dy, _, v', rfl, hq, T.cl, T.nT, rfl, tabD t, tabD u, dv, dv', okD_shaped (n := 3) (by decide) (okD_tab g), okD_shaped (n := 3) (by decide) (okD_tab g'), ?_⟩
      rw [eqv_tab]
      exact k
    · exact ⟨_, rfl, _, _, _, _, false, rfl, .own C, (AnyV.tup sy).ty, I.tup, _, rfl, k⟩
end
/-! ### the law -/
section
variable {C CB CS : Addr}
def spLaw (K : PySem.W.Frag) : Sp := fun vs H Q _ => ∃ (a : Addr) (ns : List Int), vs = [.ref a] ∧ SqL K H a (ns.map V.int) ∧ ns.length ≤ 63 ∧ ∀ H', Q (.bl true) H'
/-- a table that has been spoiled j times -/
structure TabI (j : Nat) (ds : List PyData) : Prop where
  lo : 1 ≤ ds.length
  hi : ds.length ≤ 6 + j
  ok : ∀ x ∈ ds, okD 2 x = true
  rl : ∀ x ∈ ds, rowLen x ≤ 4 + j
theorem tabI_0 {t : Tab} {m : Nat} (g : Good t m) : TabI 0 (t.map rowD) := by
  have lo := g.lo
  have hi := g.hi
  have lets := g.lets
  refine ⟨by rw [List.length_map]; exact lo, by rw [List.length_map]; exact hi, fun x hx => ?_, fun x hx => ?_⟩
  · have o := okD_tab g
    unfold tabD at o
    simp only [okD, Bool.and_eq_true, List.all_eq_true] at o
    exact o.2 x hx
  · obtain ⟨r, hr, rfl⟩ := List.mem_map.mp hx
    have e := g.rows r hr
    show (r.map stepD).length ≤ 4 + 0
    rw [List.length_map]
    omega
theorem tabI_next {j n e : Nat} {ds : List PyData} {x : PyData} (t : TabI j ds) (hj : j ≤ 1000) (hn : n < ds.length) (o : okD 2 x = true) (l : rowLen x ≤ 5 + j) : TabI (j + 1) (ds.take n ++ [x] ++ ds.drop (n + e)) := by
  have hi := t.hi
  have mem : ∀ y ∈ ds.take n ++ [x] ++ ds.drop (n + e), y ∈ ds ∨ y = x := fun y hy => by
    rcases List.mem_append.mp hy with hy | hy
    · rcases List.mem_append.mp hy with hy | hy
      · exact .inl (List.mem_of_mem_take hy)
      · exact .inr (List.mem_singleton.mp hy)
    · exact .inl (List.mem_of_mem_drop hy)
  refine ⟨by simp; omega, by simp; omega, fun y hy => ?_, fun y hy => ?_⟩
  · rcases mem y hy with hy | rfl
    · exact t.ok y hy
    · exact o
  · rcases mem y hy with hy | rfl
    · have := t.rl y hy
      omega
    · omega
theorem rowI_next {j n : Nat} {rs : List PyData} {x : PyData} (o : okD 2 (.tuple rs) = true) (l : rs.length ≤ 4 + j) (hj : j ≤ 1000) (hn : n ≤ rs.length) (ox : okD 1 x = true) :
    okD 2 (.tuple (rs.take n ++ [x] ++ rs.drop (n + 1))) = true ∧ rowLen (.tuple (rs.take n ++ [x] ++ rs.drop (n + 1))) ≤ 5 + j := by
  have ll : (rs.take n ++ [x] ++ rs.drop (n + 1)).length ≤ 5 + j := by simp; omega
  refine ⟨?_, ll⟩
  simp only [okD, Bool.and_eq_true, List.all_eq_true, decide_eq_true_eq] at o ⊢
  refine ⟨by omega, fun y hy => ?_⟩
  rcases List.mem_append.mp hy with hy | hy
  · rcases List.mem_append.mp hy with hy | hy
    · exact o.2 y (List.mem_of_mem_take hy)
    · rw [List.mem_singleton.mp hy]; exact ox
  · exact o.2 y (List.mem_of_mem_drop hy)
def stepsD (n : Nat) : List PyData := [.tuple [.int 0, .int 0], .tuple [.int (n : Nat), .int 0], .tuple [.int 0, .int 4], .tuple [.int (-1), .int 0], .tuple [.bool true, .int 0], .tuple [.int 0, .bool false], .list [.int 0, .int 0], .none, .tuple [.int 0], .tuple []]
def moreD : List PyData := [.tuple [.int 0, .int 0, .int 0], .tuple [.str "0", .int 0], .int 0, .str "-"]
def zz : PyData := .tuple [.int 0, .int 0]
def oddD : List PyData := [.tuple [], .tuple [.none], .tuple [.none, .none], .tuple [zz, zz, zz], .tuple [zz, zz, zz, zz], .list [zz, zz], .none, .int 0, .str "00"]
theorem steps_ok (n : Nat) : ∀ d ∈ stepsD n ++ moreD, okD 1 d = true := by
  intro d hd
  simp only [stepsD, moreD, List.cons_append, List.nil_append, List.mem_cons, List.not_mem_nil, or_false] at hd
  rcases hd with rfl | rfl | rfl | rfl | rfl | rfl | rfl | rfl | rfl | rfl | rfl | rfl | rfl | rfl <;> first | rfl | decide +kernel
theorem odd_ok : ∀ d ∈ oddD, okD 2 d = true ∧ rowLen d ≤ 4 := by
  intro d hd
  simp only [oddD, List.mem_cons, List.not_mem_nil, or_false] at hd
  rcases hd with rfl | rfl | rfl | rfl | rfl | rfl | rfl | rfl | rfl <;> exact ⟨by first | rfl | decide +kernel, by decide⟩
theorem tabFault_tab {t : Tab} {m : Nat} (g : Good t m) : tabFault (tabD t) = none := by
  have lo := g.lo
  have hi := g.hi
  have e : rowsFault (t.map rowD) = none := findIdx_no (fun j d hd => by
    obtain ⟨r, hr, rfl⟩ := List.mem_map.mp (List.mem_of_getElem? hd)
    have ro := rowOk_good g hr
    have l0 : rowLen ((t.map rowD).headD .none) = m := by
      cases t with
      | nil => exact absurd lo (by simp)
      | cons r0 t' =>
        show (r0.map stepD).length = m
        rw [List.length_map]
        exact g.rows r0 List.mem_cons_self
    have l1 : rowLen (rowD r) = m := by
      show (r.map stepD).length = m
      rw [List.length_map]
      exact g.rows r hr
    unfold badRow
    rw [l0, l1, List.length_map, ro, decide_eq_false (by simp)]
    rfl)
  show (if 1 ≤ (t.map rowD).length ∧ (t.map rowD).length ≤ 6 then (rowsFault (t.map rowD)).map some else some none) = none
  rw [if_pos (by rw [List.length_map]; omega), e]
  rfl
theorem picked_ok {j : Nat} {ds : List PyData} (ti : TabI j ds) (hj : j ≤ 2) : ∀ d ∈ (List.replicate 7 [PyData.tuple ds]).flatten ++ [.list ds, .none, .tuple [], .tuple (List.replicate 7 (ds.take 1)).flatten], okD 3 d = true := by
  have hi := ti.hi
  have al : ds.all (okD 2) = true := List.all_eq_true.mpr ti.ok
  have o1 : okD 3 (.tuple ds) = true := by simp only [okD, Bool.and_eq_true, decide_eq_true_eq]; exact ⟨by omega, al⟩
  intro d hd
  rcases List.mem_append.mp hd with hd | hd
  · obtain ⟨x, hx, hd⟩ := List.mem_flatten.mp hd
    rw [List.eq_of_mem_replicate hx] at hd
    rw [List.mem_singleton.mp hd]
    exact o1
  · simp only [List.mem_cons, List.not_mem_nil, or_false] at hd
    rcases hd with rfl | rfl | rfl | rfl
    · simp only [okD, Bool.and_eq_true, decide_eq_true_eq]; exact ⟨by omega, al⟩
    · rfl
    · rfl
    · simp only [okD, Bool.and_eq_true, decide_eq_true_eq, List.all_eq_true]
      refine ⟨?_, fun x hx => ?_⟩
      · rw [List.length_flatten, List.map_replicate, List.sum_replicate_nat, List.length_take]
        omega
      · obtain ⟨y, hy, hx⟩ := List.mem_flatten.mp hx
        rw [List.eq_of_mem_replicate hy] at hx
        exact ti.ok x (List.mem_of_mem_take hx)
theorem good_last {t : Tab} {m : Nat} (g : Good t m) {r : List Stp} (hr : t[t.length - 1]? = some r) {s' : Stp} (hs : ∀ a w, s' = some (a, w) → a < t.length ∧ w < 4) : Good (t.take (t.length - 1) ++ [r.take (r.length - 1) ++ [s']]) m := by
  have lo := g.lo
  have hi := g.hi
  have lr := g.rows r (List.mem_of_getElem? hr)
  have lets := g.lets
  have ll : (t.take (t.length - 1) ++ [r.take (r.length - 1) ++ [s']]).length = t.length := by
    rw [List.length_append, List.length_take]
    show min (t.length - 1) t.length + 1 = t.length
    omega
  refine ⟨by rw [ll]; exact lo, by rw [ll]; exact hi, lets, fun q hq => ?_, fun q hq a w hw => ?_⟩
  · rcases List.mem_append.mp hq with hq | hq
    · exact g.rows q (List.mem_of_mem_take hq)
    · rw [List.mem_singleton.mp hq, List.length_append, List.length_take]
      show min (r.length - 1) r.length + 1 = m
      omega
  · rw [ll]
    rcases List.mem_append.mp hq with hq | hq
    · exact g.steps q (List.mem_of_mem_take hq) a w hw
    · rw [List.mem_singleton.mp hq] at hw
      rcases List.mem_append.mp hw with hw | hw
      · exact g.steps r (List.mem_of_getElem? hr) a w (List.mem_of_mem_take hw)
      · exact hs a w (List.mem_singleton.mp hw).symm
theorem last_ne {t : Tab} {r : List Stp} {s s' : Stp} (h0 : 0 < t.length) (hr : t[t.length - 1]? = some r) (hs : r[r.length - 1]? = some s) (ne : s ≠ s') : t ≠ t.take (t.length - 1) ++ [r.take (r.length - 1) ++ [s']] := fun e => by
  have e1 : t[t.length - 1]? = some (r.take (r.length - 1) ++ [s']) := by
    have z : (t.take (t.length - 1) ++ [r.take (r.length - 1) ++ [s']])[t.length - 1]? = some (r.take (r.length - 1) ++ [s']) := by
      rw [List.getElem?_append_right (by rw [List.length_take]; omega), List.length_take, show t.length - 1 - min (t.length - 1) t.length = 0 by omega]
      rfl
    rw [← e] at z
    exact z
  have e2 : r = r.take (r.length - 1) ++ [s'] := Option.some.inj (hr.symm.trans e1)
  have hl : 0 < r.length := by
    have := (List.getElem?_eq_some_iff.mp hs).1
    omega
  have e3 : r[r.length - 1]? = some s' := by
    have z : (r.take (r.length - 1) ++ [s'])[r.length - 1]? = some s' := by
      rw [List.getElem?_append_right (by rw [List.length_take]; omega), List.length_take, show r.length - 1 - min (r.length - 1) r.length = 0 by omega]
      rfl
    rw [← e2] at z
    exact z
  exact ne (Option.some.inj (hs.symm.trans e3))
theorem ok_law {f : Addr} {fd : FuncData} (F : Fun K "law" "law" s_law f fd) (B : Blt mg) (G__law_mix : DefK P w K mg base CX0 1 "_law_mix" P__law_mix (spMix K)) (G__law_next : DefK P w K mg base CX0 1 "_law_next" P__law_next spNext)
    (G__law_pick : DefK P w K mg base CX0 2 "_law_pick" P__law_pick spPick) (G__law_table : DefK P w K mg base CX0 3 "_law_table" P__law_table (spTable K)) (G__law_tried : DefK P w K mg base CX0 8 "_law_tried" P__law_tried (spTried K C))
    (G__law_fault : DefK P w K mg base CX0 2 "_law_fault" P__law_fault (spLFault K)) (G__law_alike : DefK P w K mg base CX0 5 "_law_alike" P__law_alike (spAlike K 5))
    (m_Machine : MkK P w K mg base (L2.CX P w) 5 C "Machine" P_Machine_init (spMInitX K C CB)) (g_Machine : mg "Machine" = some (.ref C)) (I_Machine : InsC K C) (e_Machine : EqK P w K mg base 1 C (spMEq K C))
    (p_table : PropK P w K mg base 1 C "table" (spMGet K C)) (p_letters : PropK P w K mg base 1 C "letters" (spMLet K C)) (l_Machine : LenK P w K mg base 1 C (spMLen K C)) : FnOk P w K mg base CX0 9 f fd P_law (spLaw K) := by
  refine F.ok sc_law (fun vs H Q E h => ?_) (fun cdv A outer s H vs Q E hr h => ?_)
  · obtain ⟨a, ns, rfl, _⟩ := h
    rfl
  · obtain ⟨a, ns, rfl, hS, hlen, k⟩ := h
    refine ⟨_, (pss_cons (ps_set (i := 1) sc_law.nd rfl (Or.inl rfl) (pe_def G__law_mix (hr.mono (by omega)) (by rfl) (pa_cons (pv 0) (pa_cons pe_int pa_nil))))
 (pss_cons (ps_for PassesOwn.never rfl (pi_range1 (by rfl) B.n_range (pa_cons pe_int pa_nil)) (pg_name (i := 2) sc_law.nd rfl (Or.inl rfl))
 (pss_cons (ps_set (i := 3) sc_law.nd rfl (Or.inl rfl) (pe_def G__law_table (hr.mono (by omega)) (by rfl) (pa_cons (pv 1) pa_nil)))
 (pss_cons (ps_set (i := 4) sc_law.nd rfl (Or.inl rfl) (pe_lst (pa_cons (pe_tup (pa_cons pe_int (pa_cons pe_int pa_nil))) (pa_cons (pe_tup (pa_cons (pe_callB (k_len K) (by rfl) B.n_len boot_len (pa_cons (pv 3) pa_nil)) (pa_cons pe_int pa_nil))) (pa_cons (pe_tup (pa_cons pe_int (pa_cons pe_int pa_nil))) (pa_cons (pe_tup (pa_cons (pe_un un_neg pe_int) (pa_cons pe_int pa_nil))) (pa_cons (pe_tup (pa_cons pe_bl (pa_cons pe_int pa_nil))) (pa_cons (pe_tup (pa_cons pe_int (pa_cons pe_bl pa_nil))) (pa_cons (pe_lst (pa_cons pe_int (pa_cons pe_int pa_nil))) (pa_cons pe_non (pa_cons (pe_tup (pa_cons pe_int pa_nil)) (pa_cons (pe_tup pa_nil) pa_nil))))))))))))
 (pss_cons (ps_set (i := 4) sc_law.nd rfl (Or.inl rfl) (pe_op op_cat (pv 4) (pe_lst (pa_cons (pe_tup (pa_cons pe_int (pa_cons pe_int (pa_cons pe_int pa_nil)))) (pa_cons (pe_tup (pa_cons pe_str (pa_cons pe_int pa_nil))) (pa_cons pe_int (pa_cons pe_str pa_nil)))))))
 (pss_cons (ps_set (i := 5) sc_law.nd rfl (Or.inl rfl) (pe_lst (pa_cons (pe_tup pa_nil) (pa_cons (pe_tup (pa_cons pe_non pa_nil)) (pa_cons (pe_op (k_repT K) (pe_tup (pa_cons pe_non pa_nil)) pe_int) (pa_cons (pe_op (k_repT K) (pe_tup (pa_cons (pe_tup (pa_cons pe_int (pa_cons pe_int pa_nil))) pa_nil)) pe_int) (pa_cons (pe_op (k_repT K) (pe_tup (pa_cons (pe_tup (pa_cons pe_int (pa_cons pe_int pa_nil))) pa_nil)) pe_int) (pa_cons (pe_op op_rep (pe_lst (pa_cons (pe_tup (pa_cons pe_int (pa_cons pe_int pa_nil))) pa_nil)) pe_int) (pa_cons pe_non (pa_cons pe_int (pa_cons pe_str pa_nil)))))))))))
 (pss_cons (ps_for PassesOwn.never rfl (pi_range1 (by rfl) B.n_range (pa_cons (pe_def G__law_pick (hr.mono (by omega)) (by rfl) (pa_cons (pv 1) (pa_cons (pe_lst (pa_cons pe_int (pa_cons pe_int (pa_cons pe_int (pa_cons pe_int (pa_cons pe_int pa_nil)))))) pa_nil))) pa_nil)) (pg_name (i := 6) sc_law.nd rfl (Or.inl rfl))
 (pss_cons (ps_set (i := 7) sc_law.nd rfl (Or.inl rfl) (pe_def G__law_next (hr.mono (by omega)) (by rfl) (pa_cons (pv 1) (pa_cons (pe_callB (k_len K) (by rfl) B.n_len boot_len (pa_cons (pv 3) pa_nil)) pa_nil))))
 (pss_cons (ps_set (i := 8) sc_law.nd rfl (Or.inl rfl) (pe_def G__law_pick (hr.mono (by omega)) (by rfl) (pa_cons (pv 1) (pa_cons (pv 5) pa_nil))))
 (pss_mid (ps_if (PW.pt (pw_and (pt_val (pe_callB (k_isi K) (by rfl) B.n_isinstance (by decide +kernel) (pa_cons (pe_ix (k_ixT K) (pv 3) (pv 7) (fun _ _ => rfl)) (pa_cons (pe_bltn (v := .ty "tuple") (u := .type "tuple") (by rfl) B.n_tuple (by decide +kernel) rfl) pa_nil)))) (pw_and1 (pt_cmpR op_eq (pe_def G__law_next (hr.mono (by omega)) (by rfl) (pa_cons (pv 1) (pa_cons pe_int pa_nil))) pe_int (nomark _))))) (pss_cons (ps_set (i := 9) sc_law.nd rfl (Or.inl rfl) (pe_def G__law_next (hr.mono (by omega)) (by rfl) (pa_cons (pv 1) (pa_cons (pe_op op_add (pe_callB (k_len K) (by rfl) B.n_len boot_len (pa_cons (pe_ix (k_ixT K) (pv 3) (pv 7) (fun _ _ => rfl)) pa_nil)) pe_int) pa_nil))))
 (pss_one (ps_set (i := 8) sc_law.nd rfl (Or.inl rfl) (pe_op (k_catT K) (pe_op (k_catT K) (pe_slice (k_slT K) (pe_ix (k_ixT K) (pv 3) (pv 7) (fun _ _ => rfl)) po_none (po_some (pv 9))) (pe_tup (pa_cons (pe_def G__law_pick (hr.mono (by omega)) (by rfl) (pa_cons (pv 1) (pa_cons (pv 4) pa_nil))) pa_nil))) (pe_slice (k_slT K) (pe_ix (k_ixT K) (pv 3) (pv 7) (fun _ _ => rfl)) (po_some (pe_op op_add (pv 9) pe_int)) po_none))))) pss_nil)
 (pss_one (ps_set (i := 3) sc_law.nd rfl (Or.inl rfl) (pe_op (k_catT K) (pe_op (k_catT K) (pe_slice (k_slT K) (pv 3) po_none (po_some (pv 7))) (pe_tup (pa_cons (pv 8) pa_nil))) (pe_slice (k_slT K) (pv 3) (po_some (pe_op op_add (pv 7) (pe_def G__law_pick (hr.mono (by omega)) (by rfl) (pa_cons (pv 1) (pa_cons (pe_lst (pa_cons pe_int (pa_cons pe_int (pa_cons pe_int pa_nil)))) pa_nil))))) po_none))))))))
 (pss_cons (ps_set (i := 3) sc_law.nd rfl (Or.inl rfl) (pe_def G__law_pick (hr.mono (by omega)) (by rfl) (pa_cons (pv 1) (pa_cons (pe_op op_cat (pe_op op_rep (pe_lst (pa_cons (pv 3) pa_nil)) pe_int) (pe_lst (pa_cons (pe_callTy (k_listOf K) (by rfl) B.n_list (by decide +kernel) (pa_cons (pv 3) pa_nil)) (pa_cons pe_non (pa_cons (pe_tup pa_nil) (pa_cons (pe_op (k_repT K) (pe_slice (k_slT K) (pv 3) po_none (po_some pe_int)) pe_int) pa_nil)))))) pa_nil))))
 (pss_cons (ps_par (i := 10) (j := 11) rfl sc_law.nd rfl rfl (by decide) rfl rfl (pa_cons (pe_def G__law_tried (hr.mono (by omega)) (by rfl) (pa_cons (pv 3) pa_nil)) (pa_cons (pe_def G__law_fault (hr.mono (by omega)) (by rfl) (pa_cons (pv 3) pa_nil)) pa_nil)) rfl)
 (pss_one (ps_if (pt_cmpR op_notN (pv 11) pe_non (nomark _)) (pss_one (ps_if (pt_not (pt_val (pe_def G__law_alike (hr.mono (by omega)) (by rfl) (pa_cons (pv 10) (pa_cons (pv 11) pa_nil))))) (pss_one (ps_ret pe_bl)) pss_nil)) (pss_one (ps_if (PW.pt (pw_or (pt_not (pt_val (pe_callB (k_isi K) (by rfl) B.n_isinstance (by decide +kernel) (pa_cons (pv 10) (pa_cons (pe_gR (by rfl) g_Machine) pa_nil))))) (pw_or (pt_not (pt_cmpR (k_eqO K e_Machine (hr.mono (by omega))) (pv 10) (pe_mkX m_Machine (hr.mono (by omega)) (by rfl) takes0 (by exact (pa_cons (pv 3) pa_nil))) (nomark _))) (pw_or1 (pt_cmpR (k_eqO K e_Machine (hr.mono (by omega))) (pv 10) (pv 3) (nomark _)))))) (pss_one (ps_ret pe_bl)) (pss_one (ps_if (pt_not (pt_val (pe_def G__law_alike (hr.mono (by omega)) (by rfl) (pa_cons (pe_lst (pa_cons (pe_propM p_table (hr.mono (by omega)) (pv 10)) (pa_cons (pe_propM p_letters (hr.mono (by omega)) (pv 10)) (pa_cons (pe_lenO l_Machine (hr.mono (by omega)) (by rfl) B.n_len (pv 10)) pa_nil)))) (pa_cons (pe_lst (pa_cons (pv 3) (pa_cons (pe_callB (k_len K) (by rfl) B.n_len boot_len (pa_cons (pe_ix (k_ixT K) (pv 3) pe_int (fun _ _ => rfl)) pa_nil)) (pa_cons (pe_callB (k_len K) (by rfl) B.n_len boot_len (pa_cons (pv 3) pa_nil)) pa_nil)))) pa_nil))))) (pss_one (ps_ret pe_bl)) (pss_cons (ps_set (i := 12) sc_law.nd rfl (Or.inl rfl) (pe_ix (k_ixT K) (pe_ix (k_ixT K) (pv 3) (pe_un un_neg pe_int) (fun _ _ => rfl)) (pe_un un_neg pe_int) (fun _ _ => rfl)))
 (pss_one (ps_if (pt_cmpR (k_eqO K e_Machine (hr.mono (by omega))) (pv 10) (pe_mkX m_Machine (hr.mono (by omega)) (by rfl) takes0 (by exact (pa_cons (pe_op (k_catT K) (pe_slice (k_slT K) (pv 3) po_none (po_some (pe_un un_neg pe_int))) (pe_tup (pa_cons (pe_op (k_catT K) (pe_slice (k_slT K) (pe_ix (k_ixT K) (pv 3) (pe_un un_neg pe_int) (fun _ _ => rfl)) po_none (po_some (pe_un un_neg pe_int))) (pe_tup (pa_cons (pe_ifExp (pt_cmpR op_notN (pv 12) pe_non (nomark _)) pe_non (pe_tup (pa_cons pe_int (pa_cons pe_int pa_nil)))) pa_nil))) pa_nil))) pa_nil))) (nomark _)) (pss_one (ps_ret pe_bl)) pss_nil)))))))))))))))))
 (pss_one (ps_ret pe_bl)))), ?_⟩
    refine ⟨_, rfl, a, ns, 1, rfl, hS, hlen, by decide, by decide, fun h l H0 s0 _ _ S0 => ?_⟩
    refine ⟨_, rfl, by decide, by decide, for_range (lo := 0) (n := (6 : Int).toNat) (fun i σ H' => ∃ u2 u3 u4 u5 u6 u7 u8 u9 u10 u11 u12, σ = [some (.ref a), some (.ref h), u2, u3, u4, u5, u6, u7, u8, u9, u10, u11, u12] ∧ Src H' h l) ⟨none, none, none, none, none, none, none, none, none, none, none, rfl, S0⟩ ?_ ?_⟩
    · rintro i σ H1 hi ⟨u2, u3, u4, u5, u6, u7, u8, u9, u10, u11, u12, rfl, S1⟩
      refine ⟨_, rfl, h, l, rfl, S1, fun vt t m H2 g dt S2 k2 => ?_⟩
      have dk2 : Dk K h l H2 vt (.tuple (t.map rowD)) := Dk.of S2 dt (noL_tab t)
      obtain ⟨ta, txs, rfl, st, dts⟩ := dk2.parts
      have lt : txs.length = t.length := by rw [dts.len, List.length_map]
      have z2 : ∀ (σ : L2.St) (i j : Int), Mks K H2 (tTup (tCons (tC (.int i)) (tCons (tC (.int j)) tNil))) σ (.tuple [.int i, .int j]) := fun σ i j => mks_tup (mks_cons (mks_int i) (mks_cons (mks_int j) mks_nil)) (show 2 ≤ 1000 by decide)
      -- _law_steps
      dsimp only [gName]
      refine seq_lst (K := K) (ds := stepsD txs.length) S2 ?A1 (show 10 ≤ 1000 by decide) (fun xs LA H3 s3 S3 eA dA _ _ => ?_)
      case A1 => exact mks_cons (z2 _ 0 0) (mks_cons (mks_tup (mks_cons (mks_len rfl st) (mks_cons (mks_int 0) mks_nil)) (show 2 ≤ 1000 by decide)) (mks_cons (z2 _ 0 4) (mks_cons (mks_tup (mks_cons (mks_neg 1) (mks_cons (mks_int 0) mks_nil)) (show 2 ≤ 1000 by decide))
        (mks_cons (mks_tup (mks_cons (mks_bl true) (mks_cons (mks_int 0) mks_nil)) (show 2 ≤ 1000 by decide)) (mks_cons (mks_tup (mks_cons (mks_int 0) (mks_cons (mks_bl false) mks_nil)) (show 2 ≤ 1000 by decide))
        (mks_cons (mks_lst (mks_cons (mks_int 0) (mks_cons (mks_int 0) mks_nil)) (show 2 ≤ 1000 by decide)) (mks_cons mks_non (mks_cons (mks_tup (mks_cons (mks_int 0) mks_nil) (show 1 ≤ 1000 by decide)) (mks_cons (mks_tup mks_nil (show 0 ≤ 1000 by decide)) mks_nil)))))))))
      refine seq_cat (K := K) (ds := moreD) S3 rfl eA dA ?A2 (show 4 ≤ 1000 by decide) (show 10 ≤ 1000 by decide) (fun ys LS H4 s4 S4 eS dS nS1 nS2 => ?_)
      case A2 => exact mks_cons (mks_tup (mks_cons (mks_int 0) (mks_cons (mks_int 0) (mks_cons (mks_int 0) mks_nil))) (show 3 ≤ 1000 by decide)) (mks_cons (mks_tup (mks_cons (mks_str "0") (mks_cons (mks_int 0) mks_nil)) (show 2 ≤ 1000 by decide)) (mks_cons (mks_int 0) (mks_cons (mks_str "-") mks_nil)))
      refine seq_lst (K := K) (ds := oddD) S4 ?A3 (show 9 ≤ 1000 by decide) (fun zs LO H5 s5 S5 eO dO nO1 nO2 => ?_)
      case A3 =>
        have n1 : ∀ σ, Mks K H4 (tTup (tCons (tC .non) tNil)) σ (.tuple [.none]) := fun σ => mks_tup (mks_cons mks_non mks_nil) (show 1 ≤ 1000 by decide)
        have z4 : ∀ σ, Mks K H4 (tTup (tCons (tC (.int 0)) (tCons (tC (.int 0)) tNil))) σ zz := fun σ => mks_tup (mks_cons (mks_int 0) (mks_cons (mks_int 0) mks_nil)) (show 2 ≤ 1000 by decide)
        have z5 : ∀ σ, Mks K H4 (tTup (tCons (tTup (tCons (tC (.int 0)) (tCons (tC (.int 0)) tNil))) tNil)) σ (.tuple [zz]) := fun σ => mks_tup (mks_cons (z4 σ) mks_nil) (show 1 ≤ 1000 by decide)
        exact mks_cons (mks_tup mks_nil (show 0 ≤ 1000 by decide)) (mks_cons (n1 _) (mks_cons (mks_repT (n := 2) (n1 _) (by decide) (by decide) (by decide) (by decide)) (mks_cons (mks_repT (n := 3) (z5 _) (by simp) (by decide) (by decide) (by decide)) (mks_cons (mks_repT (n := 4) (z5 _) (by simp) (by decide) (by decide) (by decide))
          (mks_cons (mks_rep (n := 2) (mks_cons (z4 _) mks_nil) (by decide) (by decide) (by decide) (by decide)) (mks_cons mks_non (mks_cons (mks_int 0) (mks_cons (mks_str "00") mks_nil))))))))
      refine ⟨_, rfl, by show 5 ≤ sizeLine; decide, fun q hq => ⟨h, l, q, _, rfl, S5.same (same_new hq _), upd_same, (S5.neN hq).1, (S5.neN hq).2, by show 0 < 5; decide, by show 5 < 1000000; decide, fun v H6 vm S6 k6 => ?_⟩⟩
      have k56 : Keep h l H5 H6 := (Keep.of (same_new hq _)).trans k6
      obtain ⟨c, rfl, c2⟩ : ∃ c : Nat, v = .int (c : Nat) ∧ c ≤ 2 := by
        have z : v = .int 0 ∨ v = .int 1 ∨ v = .int 2 := by simpa using vm
        rcases z with rfl | rfl | rfl
        · exact ⟨0, rfl, by decide⟩
        · exact ⟨1, rfl, by decide⟩
        · exact ⟨2, rfl, by decide⟩
      have dt5 : Dk K h l H5 (.ref ta) (.tuple (t.map rowD)) := dk2.same (s3.trans (s4.trans s5))
      refine ⟨_, rfl, by omega, by omega, for_range (lo := 0) (n := ((c : Nat) : Int).toNat) (fun j σ H' => ∃ u6 u7 u8 u9 ta ds, σ = [some (.ref a), some (.ref h), some (.int (0 + (i : Int))), some (.ref ta), some (.ref LS), some (.ref LO), u6, u7, u8, u9, u10, u11, u12] ∧ Src H' h l ∧ Keep h l H5 H' ∧ Dk K h l H' (.ref ta) (.tuple ds) ∧ TabI j ds)
        ⟨u6, u7, u8, u9, ta, _, rfl, S6, k56, dt5.keep k56, tabI_0 g⟩ ?_ ?_⟩
      · rintro j σ H7 hj ⟨u6, u7, u8, u9, ta, ds, rfl, S7, k57, dt7, ti⟩
        obtain ⟨a7, xs7, e7, sx7, da7⟩ := dt7.parts
        cases e7
        have lx7 := da7.len
        have lo7 := ti.lo
        have hi7 := ti.hi
        refine ⟨_, rfl, _, rfl, ta, xs7, rfl, .inr sx7, h, l, _, rfl, S7, by omega, by omega, fun n H8 hn S8 k8 => ?_⟩
        have k58 := k57.trans k8
        have eO8 := k58 _ _ nO1 nO2 eO
        have dO8 := dO.keep k58
        refine ⟨_, rfl, _, rfl, h, l, LO, zs, rfl, S8, eO8, nO1, nO2, by rw [dO8.len]; decide, by rw [dO8.len]; decide, fun row H9 rm S9 k9 => ?_⟩
        have k59 := k58.trans k9
        obtain ⟨dr, drm, ddr⟩ := dO8.mem rm
        obtain ⟨or1, or2⟩ := odd_ok dr drm
        have dt9 := (dt7.keep k8).keep k9
        have da9 := (da7.keep k8).keep k9
        have sx9 := S8.keepT k9 (S7.keepT k8 sx7)
        have nl : n < ds.length := by omega
        obtain ⟨dn, hdn⟩ : ∃ d, ds[n]? = some d := ⟨_, List.getElem?_eq_getElem nl⟩
        obtain ⟨x, hx, dx⟩ := dps_get da9 hdn
        have dxk : Dk K h l H9 x dn := dx
        have mdn := List.mem_of_getElem? hdn
        refine ⟨fun σ' H' => ∃ row dr u9, σ' = [some (.ref a), some (.ref h), some (.int (0 + (i : Int))), some (.ref ta), some (.ref LS), some (.ref LO), some (.int (0 + (j : Int))), some (.int (n : Nat)), some row, u9, u10, u11, u12] ∧ Src H' h l ∧ Keep h l H9 H' ∧ Dk K h l H' row dr ∧ okD 2 dr = true ∧ rowLen dr ≤ 5 + j, ?_, ?_⟩
        · refine ⟨_, rfl, _, rfl, ta, xs7, _, x, rfl, rfl, sx9, atI_nat hx, ?_⟩
          have ty := dp_ty dxk.dp
          obtain ⟨bt, kt, tt⟩ : ∃ b, kitB (tyD dn) "tuple" = some b ∧ (b = true → ∃ rs, dn = .tuple rs) := by
            cases dxk with
            | non => exact ⟨false, (show kitB "NoneType" "tuple" = some false by decide +kernel), fun z => (nomatch z)⟩
            | bl b => exact ⟨false, (show kitB "bool" "tuple" = some false by decide +kernel), fun z => (nomatch z)⟩
            | int b => exact ⟨false, (show kitB "int" "tuple" = some false by decide +kernel), fun z => (nomatch z)⟩
            | str b => exact ⟨false, (show kitB "str" "tuple" = some false by decide +kernel), fun z => (nomatch z)⟩
            | lst _ _ => exact ⟨false, (show kitB "list" "tuple" = some false by decide +kernel), fun z => (nomatch z)⟩
            | tup _ _ => exact ⟨true, (show kitB "tuple" "tuple" = some true by decide +kernel), fun _ => ⟨_, rfl⟩⟩
          have skip : ∀ H', Src H' h l → Keep h l H9 H' → ∃ row' dr' u9', [some (.ref a), some (.ref h), some (.int (0 + (i : Int))), some (.ref ta), some (.ref LS), some (.ref LO), some (.int (0 + (j : Int))), some (.int (n : Nat)), some row, u9, u10, u11, u12] = [some (.ref a), some (.ref h), some (.int (0 + (i : Int))), some (.ref ta), some (.ref LS), some (.ref LO), some (.int (0 + (j : Int))), some (.int (n : Nat)), some row', u9', u10, u11, u12] ∧ Src H' h l ∧ Keep h l H9 H' ∧ Dk K h l H' row' dr' ∧ okD 2 dr' = true ∧ rowLen dr' ≤ 5 + j :=
            fun H' S' k' => ⟨row, dr, u9, rfl, S', k', (ddr.keep k9).keep k', or1, by omega⟩
          refine ⟨_, _, _, _, bt, rfl, .ty _, ty.ty, kit_any kt, _, rfl, ?_⟩
          cases bt with
          | false => exact skip H9 S9 (Keep.refl H9)
          | true =>
            obtain ⟨rs, rfl⟩ := tt rfl
            refine ⟨_, rfl, h, l, 2, rfl, S9, by decide, by decide, fun c2 H10 hc2 S10 k10 => ⟨rfl, _, rfl, ?_⟩⟩
            cases ec : decide (V.int ((c2 : Nat) : Int) = V.int 0) with
            | false => exact skip H10 S10 k10
            | true =>
              obtain ⟨b, yb, rfl, sb, db⟩ := dxk.parts
              have lb := db.len
              have sx10 := S9.keepT k10 sx9
              have sb10 := S9.keepT k10 sb
              have r3 := ti.rl _ mdn
              have rl4 : rs.length ≤ 4 + j := r3
              refine ⟨_, rfl, _, rfl, _, rfl, ta, xs7, _, _, rfl, rfl, sx10, atI_nat hx, b, yb, rfl, .inr sb10, _, _, rfl, rfl, h, l, _, rfl, S10, by omega, by omega, fun at' H11 hat S11 k11 => ?_⟩
              have k911 := k10.trans k11
              have sx11 := S10.keepT k11 sx10
              have sb11 := S10.keepT k11 sb10
              have atl : at' ≤ rs.length := by omega
              refine ⟨_, rfl, _, rfl, ta, xs7, _, _, rfl, rfl, sx11, atI_nat hx, _, rfl, _, rfl, slA2 sb11 (fun r1 H12 s12 hr1 => ?_)⟩
              have k512 := k59.trans (k911.trans (Keep.of s12))
              refine ⟨_, rfl, _, rfl, h, l, LS, ys, rfl, S11.same s12, k512 _ _ nS1 nS2 (s5 _ _ eS), nS1, nS2, by rw [dS.len]; exact (show 0 < 14 by decide), by rw [dS.len]; exact (show 14 < 1000000 by decide), fun sp H13 sm S13 k13 => ?_⟩
              obtain ⟨dst, dsm, ddst⟩ := ((dS.same s5).keep k512).mem sm
              have ost := steps_ok _ dst dsm
              have S12 := S11.same s12
              have sx13 := S12.keepT k13 (seqT s12 sx11)
              have sb13 := S12.keepT k13 (seqT s12 sb11)
              have hr13 := S12.keepT k13 hr1
              refine ⟨by show 1 ≤ sizeLine; decide, fun T hT => catA_ok (seqT (same_new hT _) hr13) (SqT.of upd_same) ?_ (fun r2 H14 s14 hr2 => ?_)⟩
              · rw [cutV_take _ (by omega), List.length_take]
                exact small1k (by show _ + 1 ≤ 1000; omega)
              have s134 := (same_new hT (HO.tup [sp])).trans s14
              refine ⟨_, rfl, _, rfl, ta, xs7, _, _, rfl, rfl, seqT s134 sx13, atI_nat hx, _, rfl, _, _, rfl, rfl, _, rfl, ?_⟩
              dsimp only [tNoPart]
              refine slA2 (seqT s134 sb13) (fun r3 H15 s15 hr3 => ?_)
              refine catA_ok (seqT s15 hr2) hr3 ?_ (fun r4 H16 s16 hr4 => ?_)
              · have := cutV_length yb (some ((at' : Int) + 1)) none
                have := cutV_length yb none (some (at' : Int))
                exact small1k (by rw [List.length_append]; show _ + 1 + _ ≤ 1000; omega)
              · rw [cutV_take _ (by omega), show ((at' : Int) + 1) = ((at' + 1 : Nat) : Int) by omega, cutV_drop] at hr4
                have sA := s134.trans (s15.trans s16)
                have S16 := S13.same sA
                have kA : Keep h l H9 H16 := k911.trans ((Keep.of s12).trans (k13.trans (Keep.of sA)))
                have db16 := (db.keep kA)
                have dst16 := (ddst.keep k13).same sA
                obtain ⟨o1, o2⟩ := rowI_next (j := j) (n := at') (x := dst) (ti.ok _ mdn) rl4 (by omega) atl ost
                exact ⟨_, _, _, rfl, S16, kA, Dk.tupS S16 hr4 (((db16.take at').app (DkA.cons dst16 DkA.nil)).app (db16.drop (at' + 1))), o1, o2⟩
        · rintro σ' H10 ⟨row, dr, u9', rfl, S10, k10, dr10, o10, l10⟩
          have sx10 := S9.keepT k10 sx9
          refine ⟨_, rfl, _, rfl, _, rfl, slA2 sx10 (fun r1 H12 s12 hr1 => ?_)⟩
          refine ⟨_, rfl, by show 1 ≤ sizeLine; decide, fun T hT => catA_ok (seqT (same_new hT _) hr1) (SqT.of upd_same) ?_ (fun r2 H14 s14 hr2 => ?_)⟩
          · rw [cutV_take _ (by omega), List.length_take]
            exact small1k (by show _ + 1 ≤ 1000; omega)
          have s124 := s12.trans ((same_new hT (HO.tup [row])).trans s14)
          have S14 := S10.same s124
          refine ⟨_, rfl, _, rfl, _, rfl, by show 3 ≤ sizeLine; decide, fun q2 hq2 => ⟨h, l, q2, _, rfl, S14.same (same_new hq2 _), upd_same, (S14.neN hq2).1, (S14.neN hq2).2, by show 0 < 3; decide, by show 3 < 1000000; decide, fun ve H15 em S15 k15 => ?_⟩⟩
          obtain ⟨e, rfl⟩ : ∃ e : Nat, ve = .int (e : Nat) := by
            have z : ve = .int 0 ∨ ve = .int 1 := by simpa using em
            rcases z with rfl | rfl
            · exact ⟨0, rfl⟩
            · exact ⟨1, rfl⟩
          have k1015 : Keep h l H10 H15 := (Keep.of s124).trans ((Keep.of (same_new hq2 _)).trans k15)
          have sx15 := S10.keepT k1015 sx10
          have hr15 := (S14.same (same_new hq2 _)).keepT k15 (seqT (same_new hq2 _) hr2)
          refine ⟨_, _, rfl, rfl, _, rfl, ?_⟩
          dsimp only [tNoPart]
          refine slA2 sx15 (fun r3 H16 s16 hr3 => ?_)
          refine catA_ok (seqT s16 hr15) hr3 ?_ (fun r4 H17 s17 hr4 => ?_)
          · have := cutV_length xs7 (some ((n : Int) + (e : Int))) none
            have := cutV_length xs7 none (some (n : Int))
            exact small1k (by rw [List.length_append]; show _ + 1 + _ ≤ 1000; omega)
          · rw [cutV_take _ (by omega), show ((n : Int) + (e : Int)) = ((n + e : Nat) : Int) by omega, cutV_drop] at hr4
            have kB : Keep h l H10 H17 := k1015.trans (Keep.of (s16.trans s17))
            have S17 := S15.same (s16.trans s17)
            have da17 := (da9.keep k10).keep kB
            exact ⟨_, _, _, _, r4, _, rfl, S17, k59.trans (k10.trans kB), Dk.tupS S17 hr4 (((da17.take n).app (DkA.cons (dr10.keep kB) DkA.nil)).app (da17.drop (n + e))), tabI_next ti (by omega) nl o10 l10⟩
      · rintro σ H7 ⟨u6, u7, u8, u9, ta, ds, rfl, S7, k57, dt7, ti⟩
        obtain ⟨a7, xs7, e7, sx7, da7⟩ := dt7.parts
        cases e7
        have lx7 := da7.len
        have lo7 := ti.lo
        have hi7 := ti.hi
        have c2' : ((c : Nat) : Int).toNat ≤ 2 := by omega
        refine ⟨_, rfl, _, rfl, by show 1 ≤ sizeLine; decide, fun p1 hp1 => ⟨p1, 7, _, rfl, rfl, upd_same, by decide, by decide, by show 1 * 7 ≤ sizeLine; decide, fun p2 hp2 => ?_⟩⟩
        have s1 := (same_new hp1 (HO.lst [V.ref ta])).trans (same_new hp2 (HO.lst (List.replicate (7 : Int).toNat [V.ref ta]).flatten))
        have e2 : (upd (upd H7 p1 (.lst [V.ref ta])) p2 (.lst (List.replicate (7 : Int).toNat [V.ref ta]).flatten)) p2 = some (.lst (List.replicate (7 : Int).toNat [V.ref ta]).flatten) := upd_same
        revert s1 e2
        generalize upd (upd H7 p1 (.lst [V.ref ta])) p2 (.lst (List.replicate (7 : Int).toNat [V.ref ta]).flatten) = H8
        intro s1 e2
        refine ⟨_, rfl, ta, xs7, rfl, .inr (seqT s1 sx7), fun pl hpl => ⟨by show 0 ≤ sizeLine; decide, fun pe hpe => ⟨_, rfl, _, rfl, ?_⟩⟩⟩
        have S8 := S7.same s1
        have sl := same_new hpl (HO.lst xs7)
        have se := same_new hpe (HO.tup [])
        have D1 : Dk K h l (upd H8 pl (.lst xs7)) (.ref pl) (.list ds) := Dk.lst S8 hpl (da7.same s1)
        have D2 := Dk.tup (S8.same sl) hpe (DkA.nil (K := K))
        refine slA2 (seqT (s1.trans (sl.trans se)) sx7) (fun r1 H9 s9 hr1 => ?_)
        have c1 : cutV xs7 none (some 1) = xs7.take 1 := cutV_take xs7 (n := 1) (by omega)
        rw [c1] at hr1
        have S9 := ((S8.same sl).same se).same s9
        refine ⟨r1, 7, _, rfl, rfl, hr1, fun z => (by have q : (xs7.take 1).length = 0 := (by rw [z]; rfl); rw [List.length_take] at q; omega), by decide, by decide, by rw [List.length_take]; omega, fun pr hpr => ⟨by show 4 ≤ sizeLine; decide, fun p3 hp3 => ?_⟩⟩
        have sr := same_new hpr (HO.tup (List.replicate (7 : Int).toNat (xs7.take 1)).flatten)
        have D3 := Dk.tup S9 hpr (((da7.same (s1.trans (sl.trans (se.trans s9)))).take 1).rep 7)
        have s3' := same_new hp3 (HO.lst [V.ref pl, V.non, V.ref pe, V.ref pr])
        have sB := sl.trans (se.trans (s9.trans (sr.trans s3')))
        refine ⟨p2, p3, _, _, rfl, rfl, sB _ _ e2, upd_same, by show 7 + 4 ≤ sizeLine; decide, fun p4 hp4 => ?_⟩
        have s4' := same_new hp4 (HO.lst ((List.replicate (7 : Int).toNat [V.ref ta]).flatten ++ [V.ref pl, V.non, V.ref pe, V.ref pr]))
        have S10 := ((S9.same sr).same s3').same s4'
        have nn4 := ((S9.same sr).same s3').neN hp4
        refine ⟨h, l, p4, _, rfl, S10, upd_same, nn4.1, nn4.2, by show 0 < 11; decide, by show 11 < 1000000; decide, fun v H13 vm S13 k13 => ?_⟩
        have kC : Keep h l H7 H13 := (Keep.of (s1.trans (sB.trans s4'))).trans k13
        have all13 : DkA K h l H13 ((List.replicate 7 [V.ref ta]).flatten ++ [V.ref pl, V.non, V.ref pe, V.ref pr]) ((List.replicate 7 [PyData.tuple ds]).flatten ++ [.list ds, .none, .tuple [], .tuple (List.replicate 7 (ds.take 1)).flatten]) :=
          ((DkA.cons (dt7.keep kC) DkA.nil).rep 7).app (DkA.cons ((D1.same (se.trans (s9.trans (sr.trans (s3'.trans s4'))))).keep k13) (DkA.cons Dp.non (DkA.cons ((D2.same (s9.trans (sr.trans (s3'.trans s4')))).keep k13) (DkA.cons ((D3.same (s3'.trans s4')).keep k13) DkA.nil))))
        obtain ⟨d, dm, dk⟩ := all13.mem vm
        have ok3 := picked_ok ti c2' d dm
        refine ⟨_, rfl, v, d, rfl, dk.dp, fun t' m' g' ed p H14 dx s14 hp dv14 => ?_, fun z ez u H14 s14 du => ?_⟩
        · subst ed
          refine ⟨_, rfl, v, _, rfl, dv14, ok3, fun u2 H15 s15 du2 => ?_⟩
          rw [tabFault_tab g'] at du2
          obtain rfl := dp_non du2
          refine ⟨_, _, rfl, _, rfl, rfl, _, rfl, ?_⟩
          rw [decide_eq_true rfl]
          have hp15 := s15 _ _ hp
          have dv15 := dp_same s15 dv14
          refine ⟨_, rfl, _, _, _, _, true, rfl, .own C, I_Machine.ty hp15, I_Machine.me, _, rfl, ?_⟩
          refine ⟨_, rfl, _, rfl, fun p2 dx2 hp2 hdx2 ne2 => ?_⟩
          have sm := mk_sameX C hp2 hdx2 ne2
          refine ⟨p2, dx2, v, _, rfl, upd_same, dp_same sm dv15, fun t2 m2 g2 e2' H16 dx' hp16 dv16 kp16 => ?_, fun z ez => by rw [tabFault_tab g'] at ez; cases ez⟩
          have s16 : Same H15 H16 := fun b o e => kp16 b o (ne_of_none e hp2) (sm b o e)
          have mp : Mach K C H16 p t' := ⟨dx, v, s16 _ _ hp15, dp_same s16 dv15⟩
          have te : decide (t' = t2) = true := by
            rw [← eqv_tab, ← e2', eqv_tab]
            exact decide_eq_true rfl
          refine ⟨rfl, p, dx, _, p2, rfl, s16 _ _ hp15, rfl, .inl ⟨_, _, hp16⟩, p, p2, t', m', rfl, mp, g', .inl ⟨t2, m2, ⟨dx', v, hp16, by rw [← e2']; exact dv16⟩, g2, _, rfl, ?_⟩⟩
          rw [te]
          obtain ⟨tv, tvs, b0, yb0, z0, rfl, stv, ltv, ea0, sb0, lb0, _, _⟩ := tab_at (n := 0) (c := 0) g' dv15 g'.lo (by rcases g'.lets with e | e <;> omega)
          have stv16 := seqT s16 stv
          refine ⟨_, rfl, _, rfl, _, rfl, p, dx, _, tv, rfl, s16 _ _ hp15, rfl, .inr ⟨tvs, stv16⟩, p, tv, t', m', rfl, mp, g', .inr ⟨tvs, stv16, _, rfl, ?_⟩⟩
          have hp16' := s16 _ _ hp15
          have hi' := g'.hi
          refine ⟨_, rfl, _, rfl, p, dx, _, rfl, hp16', p, dx, _, rfl, hp16', _, rfl, p, dx, _, rfl, hp16', p, t', m', rfl, mp, g', _, rfl, p, dx, _, rfl, hp16', p, t', rfl, mp, _, rfl, by omega, by show 3 ≤ sizeLine; decide, fun L1 hL1 => ?_⟩
          have sL1 := same_new hL1 (HO.lst [V.ref tv, .int (m' : Nat), .int (t'.length : Nat)])
          have e1 : (upd H16 L1 (.lst [V.ref tv, .int (m' : Nat), .int (t'.length : Nat)])) L1 = some (.lst [V.ref tv, .int (m' : Nat), .int (t'.length : Nat)]) := upd_same
          revert sL1 e1
          generalize upd H16 L1 (.lst [V.ref tv, .int (m' : Nat), .int (t'.length : Nat)]) = H17
          intro sL1 e1
          have s17 := s16.trans sL1
          refine ⟨_, rfl, _, rfl, tv, tvs, _, _, rfl, rfl, seqT s17 stv, ea0, b0, yb0, rfl, .inr (seqT s17 sb0), _, rfl, tv, tvs, rfl, .inr (seqT s17 stv), by show 3 ≤ sizeLine; decide, fun L2 hL2 => ?_⟩
          have sL2 := same_new hL2 (HO.lst [V.ref tv, .int (yb0.length : Nat), .int (tvs.length : Nat)])
          refine ⟨_, _, .list [tabD t', .int (m' : Nat), .int (t'.length : Nat)], rfl, .lst (SqL.of (sL2 _ _ e1)) (.cons (dp_same (s17.trans sL2) dv15) (.cons (.int _) (.cons (.int _) .nil))), .lst (SqL.of upd_same) (.cons (dp_same (s17.trans sL2) dv15) (.cons (by rw [lb0]; exact .int _) (.cons (by rw [ltv]; exact .int _) .nil))), ?_, fun H18 s18 => ⟨_, rfl, ?_⟩⟩
          · simp only [okD, List.all_cons, List.all_nil, okD_tab g', Bool.and_true, decide_eq_true_eq]
            show 3 ≤ 1000000
            decide
          have sX := s17.trans (sL2.trans s18)
          have lo' := g'.lo
          obtain ⟨rl, hrl⟩ : ∃ r, t'[t'.length - 1]? = some r := ⟨_, List.getElem?_eq_getElem (by omega)⟩
          have lrl := g'.rows rl (List.mem_of_getElem? hrl)
          have lets' := g'.lets
          obtain ⟨sl, hsl⟩ : ∃ s, rl[rl.length - 1]? = some s := ⟨_, List.getElem?_eq_getElem (by omega)⟩
          obtain ⟨tv0, tvs0, e0, stv0, alv⟩ := dp_tup (show Dp K H15 (.ref tv) (.tuple (t'.map rowD)) from dv15)
          cases e0
          obtain ⟨tvs, stv, ltv, alv⟩ : ∃ tvs, SqT K H15 tv tvs ∧ tvs.length = t'.length ∧ DpAll K H15 tvs (t'.map rowD) := ⟨tvs0, stv0, by rw [dps_len alv, List.length_map], alv⟩
          obtain ⟨xl, hxl, dxl⟩ := dps_get alv (show (t'.map rowD)[tvs.length - 1]? = some (rowD rl) by rw [ltv, List.getElem?_map, hrl]; rfl)
          obtain ⟨bl, ybl, rfl, sbl, all⟩ := dp_tup (show Dp K H15 xl (.tuple (rl.map stepD)) from dxl)
          have lbl : ybl.length = rl.length := by rw [dps_len all, List.length_map]
          obtain ⟨yl, hyl, dyl⟩ := dps_get all (show (rl.map stepD)[ybl.length - 1]? = some (stepD sl) by rw [lbl, List.getElem?_map, hsl]; rfl)
          have atv := atI_last hxl (by omega)
          have aty := atI_last hyl (by omega)
          refine ⟨_, rfl, _, rfl, tv, tvs, _, _, rfl, rfl, seqT sX stv, atv, _, rfl, bl, ybl, _, _, rfl, rfl, seqT sX sbl, aty, ?_⟩
          refine ⟨_, rfl, _, rfl, _, rfl, _, rfl, slA2 (seqT sX stv) (fun r1 H21 s21 hr1 => ?_)⟩
          refine ⟨_, rfl, _, rfl, tv, tvs, _, _, rfl, rfl, seqT (sX.trans s21) stv, atv, _, rfl, _, rfl, slA2 (seqT (sX.trans s21) sbl) (fun r2 H22 s22 hr2 => ?_)⟩
          have s2122 := s22
          cases sl with
          | some st =>
            obtain ⟨al, xl', rfl, _⟩ := step_at dyl
            refine ⟨_, rfl, rfl, _, rfl, ?_⟩
            have sW := Same.refl H22
            refine ⟨by show 1 ≤ sizeLine; decide, fun T1 hT1 => catA_ok (seqT (sW.trans (same_new hT1 _)) hr2) (SqT.of upd_same) ?_ (fun r3 H23 s23 hr3 => ⟨by show 1 ≤ sizeLine; decide, fun T2 hT2 => catA_ok (seqT (s2122.trans (sW.trans ((same_new hT1 _).trans (s23.trans (same_new hT2 _))))) hr1) (SqT.of upd_same) ?_ (fun r4 H24 s24 hr4 => ?_)⟩)⟩
            · exact small1k (by have := cutV_length ybl none (some (-1)); show _ + 1 ≤ 1000; omega)
            · exact small1k (by have := cutV_length tvs none (some (-1)); show _ + 1 ≤ 1000; omega)
            rw [cutV_last _ (by omega)] at hr3 hr4
            have sZ := (same_new hT1 (HO.tup [V.non])).trans (s23.trans ((same_new hT2 (HO.tup [V.ref r3])).trans s24))
            have sY := sX.trans (s21.trans (s22.trans (sW.trans sZ)))
            have g3 := good_last g' hrl (s' := none) (fun a w e => by cases e)
            have dnew : Dp K H24 (.ref r4) (tabD (t'.take (t'.length - 1) ++ [rl.take (rl.length - 1) ++ [none]])) := by
              unfold tabD
              rw [List.map_append, List.map_take]
              have lt' : t'.length - 1 = tvs.length - 1 := by rw [ltv]
              rw [lt']
              refine .tup hr4 (dps_app (dps_take _ (dps_same sY alv)) (.cons ?_ .nil))
              show Dp K H24 (.ref r3) (.tuple ((rl.take (rl.length - 1) ++ [none]).map stepD))
              rw [List.map_append, List.map_take]
              have lr' : rl.length - 1 = ybl.length - 1 := by rw [lbl]
              rw [lr']
              exact .tup (seqT ((same_new hT2 (HO.tup [V.ref r3])).trans s24) hr3) (dps_app (dps_take _ (dps_same sY all)) (.cons (Dp.non) .nil))
            refine fun p3 dx3 hp3 hdx3 ne3 => ⟨p3, dx3, .ref r4, _, rfl, upd_same, dp_same (mk_sameX C hp3 hdx3 ne3) dnew, fun t3 m3 g4 e3 H25 dx' hp25 dv25 kp25 => ?_, fun z ez => by rw [tabFault_tab g3] at ez; cases ez⟩
            have s25 : Same H24 H25 := fun b o e => kp25 b o (ne_of_none e hp3) (mk_sameX C hp3 hdx3 ne3 b o e)
            have sF := sY.trans s25
            have te3 : decide (t' = t3) = false := by
              rw [← eqv_tab, ← e3, eqv_tab]
              exact decide_eq_false (last_ne (by omega) hrl hsl (fun e => by cases e))
            refine ⟨rfl, p, dx, _, p3, rfl, sF _ _ hp15, rfl, .inl ⟨_, _, hp25⟩, p, p3, t', m', rfl, ⟨dx, .ref tv, sF _ _ hp15, dp_same sF dv15⟩, g', .inl ⟨t3, m3, ⟨dx', .ref r4, hp25, by rw [← e3]; exact dv25⟩, g4, _, rfl, ?_⟩⟩
            rw [te3]
            refine ⟨_, rfl, ?_⟩
            exact ⟨_, _, _, _, _, _, _, _, _, _, _, rfl, S13.same (s14.trans (s15.trans sF))⟩
          | none =>
            obtain rfl := dp_non dyl
            refine ⟨_, rfl, rfl, _, rfl, ?_⟩
            refine ⟨by show 2 ≤ sizeLine; decide, fun T0 hT0 => ?_⟩
            have sW := same_new hT0 (HO.tup [V.int 0, V.int 0])
            refine ⟨by show 1 ≤ sizeLine; decide, fun T1 hT1 => catA_ok (seqT (sW.trans (same_new hT1 _)) hr2) (SqT.of upd_same) ?_ (fun r3 H23 s23 hr3 => ⟨by show 1 ≤ sizeLine; decide, fun T2 hT2 => catA_ok (seqT (s2122.trans (sW.trans ((same_new hT1 _).trans (s23.trans (same_new hT2 _))))) hr1) (SqT.of upd_same) ?_ (fun r4 H24 s24 hr4 => ?_)⟩)⟩
            · exact small1k (by have := cutV_length ybl none (some (-1)); show _ + 1 ≤ 1000; omega)
            · exact small1k (by have := cutV_length tvs none (some (-1)); show _ + 1 ≤ 1000; omega)
            rw [cutV_last _ (by omega)] at hr3 hr4
            have sZ := (same_new hT1 (HO.tup [V.ref T0])).trans (s23.trans ((same_new hT2 (HO.tup [V.ref r3])).trans s24))
            have sY := sX.trans (s21.trans (s22.trans (sW.trans sZ)))
            have g3 := good_last g' hrl (s' := some (0, 0)) (fun a w e => by cases e; exact ⟨by omega, by decide⟩)
            have dnew : Dp K H24 (.ref r4) (tabD (t'.take (t'.length - 1) ++ [rl.take (rl.length - 1) ++ [some (0, 0)]])) := by
              unfold tabD
              rw [List.map_append, List.map_take]
              have lt' : t'.length - 1 = tvs.length - 1 := by rw [ltv]
              rw [lt']
              refine .tup hr4 (dps_app (dps_take _ (dps_same sY alv)) (.cons ?_ .nil))
              show Dp K H24 (.ref r3) (.tuple ((rl.take (rl.length - 1) ++ [some (0, 0)]).map stepD))
              rw [List.map_append, List.map_take]
              have lr' : rl.length - 1 = ybl.length - 1 := by rw [lbl]
              rw [lr']
              exact .tup (seqT ((same_new hT2 (HO.tup [V.ref r3])).trans s24) hr3) (dps_app (dps_take _ (dps_same sY all)) (.cons (Dp.tup (seqT sZ (SqT.of upd_same)) (.cons (.int 0) (.cons (.int 0) .nil))) .nil))
            refine fun p3 dx3 hp3 hdx3 ne3 => ⟨p3, dx3, .ref r4, _, rfl, upd_same, dp_same (mk_sameX C hp3 hdx3 ne3) dnew, fun t3 m3 g4 e3 H25 dx' hp25 dv25 kp25 => ?_, fun z ez => by rw [tabFault_tab g3] at ez; cases ez⟩
            have s25 : Same H24 H25 := fun b o e => kp25 b o (ne_of_none e hp3) (mk_sameX C hp3 hdx3 ne3 b o e)
            have sF := sY.trans s25
            have te3 : decide (t' = t3) = false := by
              rw [← eqv_tab, ← e3, eqv_tab]
              exact decide_eq_false (last_ne (by omega) hrl hsl (fun e => by cases e))
            refine ⟨rfl, p, dx, _, p3, rfl, sF _ _ hp15, rfl, .inl ⟨_, _, hp25⟩, p, p3, t', m', rfl, ⟨dx, .ref tv, sF _ _ hp15, dp_same sF dv15⟩, g', .inl ⟨t3, m3, ⟨dx', .ref r4, hp25, by rw [← e3]; exact dv25⟩, g4, _, rfl, ?_⟩⟩
            rw [te3]
            refine ⟨_, rfl, ?_⟩
            exact ⟨_, _, _, _, _, _, _, _, _, _, _, rfl, S13.same (s14.trans (s15.trans sF))⟩
        · refine ⟨_, rfl, v, d, rfl, dp_same s14 dk.dp, ok3, fun u2 H15 s15 du2 => ?_⟩
          rw [ez] at du2
          have okf : okD 4 (faultD (some z)) = true := by
            cases z with
            | none => rfl
            | some i => rfl
          have hu2 : ¬ u2 = .non := fun q => by
            subst q
            cases z <;> exact nomatch du2
          refine ⟨_, _, rfl, _, rfl, rfl, _, rfl, ?_⟩
          rw [decide_eq_false hu2]
          refine ⟨_, rfl, _, rfl, u, u2, _, rfl, dp_same s15 du, du2, okf, fun H16 s16 => ⟨_, rfl, ?_⟩⟩
          exact ⟨_, _, _, _, _, _, _, _, _, _, _, rfl, S13.same (s14.trans (s15.trans s16))⟩
    · rintro σ H1 ⟨u2, u3, u4, u5, u6, u7, u8, u9, u10, u11, u12, rfl, S1⟩
      exact k H1
end
end
/-! ### what the top has left, the head -/
theorem all_mk {l : PySem.W.OpenLaw} {w : World} {K : PySem.W.Frag} {h : Heap} {mg : Str → Option Value} {fa : Addr} (X : K.In h) (G : h.Ns mainGlobals mg) (hfa : mg "law" = some (.ref fa))
    {C_StandError : Addr}
    {t_MOST_STANDS : Tok}
    {t_WRITTEN_LETTERS : Tok}
    {a_LETTER_COUNTS : Addr} {dd_LETTER_COUNTS : Option Addr} {n_LETTER_COUNTS : Nat} {sl_LETTER_COUNTS : Array (Option Value)} {t0_LETTER_COUNTS t1_LETTER_COUNTS : Tok}
    {C : Addr}
    {pa_Machine_table : Addr} {rest_Machine_table : List Value}
    {f_Machine_table : Addr} {od_Machine_table an_Machine_table : Option Addr} {sl_Machine_table : Array (Option Value)} {oc_Machine_table kV_Machine_table dc_Machine_table pm_Machine_table cd_Machine_table ct_Machine_table : Value}
    {pa_Machine_letters : Addr} {rest_Machine_letters : List Value}
    {f_Machine_letters : Addr} {od_Machine_letters an_Machine_letters : Option Addr} {sl_Machine_letters : Array (Option Value)} {oc_Machine_letters kV_Machine_letters dc_Machine_letters pm_Machine_letters cd_Machine_letters ct_Machine_letters : Value}
    {f_Machine_len : Addr} {od_Machine_len an_Machine_len : Option Addr} {sl_Machine_len : Array (Option Value)} {oc_Machine_len kV_Machine_len dc_Machine_len pm_Machine_len cd_Machine_len ct_Machine_len : Value}
    {f_Machine_eq : Addr} {od_Machine_eq an_Machine_eq : Option Addr} {sl_Machine_eq : Array (Option Value)} {oc_Machine_eq kV_Machine_eq dc_Machine_eq pm_Machine_eq cd_Machine_eq ct_Machine_eq : Value}
    {f_is_below : Addr} {od_is_below an_is_below : Option Addr} {sl_is_below : Array (Option Value)} {oc_is_below kV_is_below dc_is_below pm_is_below cd_is_below ct_is_below : Value}
    {f__is_step : Addr} {od__is_step an__is_step : Option Addr} {sl__is_step : Array (Option Value)} {oc__is_step kV__is_step dc__is_step pm__is_step cd__is_step ct__is_step : Value}
    {f__is_table_row : Addr} {od__is_table_row an__is_table_row : Option Addr} {sl__is_table_row : Array (Option Value)} {oc__is_table_row kV__is_table_row dc__is_table_row pm__is_table_row cd__is_table_row ct__is_table_row : Value}
    {f__check_table : Addr} {od__check_table an__check_table : Option Addr} {sl__check_table : Array (Option Value)} {oc__check_table kV__check_table dc__check_table pm__check_table cd__check_table ct__check_table : Value}
    {f_Machine_init : Addr} {od_Machine_init an_Machine_init : Option Addr} {sl_Machine_init : Array (Option Value)} {oc_Machine_init kV_Machine_init dc_Machine_init pm_Machine_init cd_Machine_init ct_Machine_init : Value}
    {f__law_mix : Addr} {od__law_mix an__law_mix : Option Addr} {sl__law_mix : Array (Option Value)} {oc__law_mix kV__law_mix dc__law_mix pm__law_mix cd__law_mix ct__law_mix : Value}
    {f__law_next : Addr} {od__law_next an__law_next : Option Addr} {sl__law_next : Array (Option Value)} {oc__law_next kV__law_next dc__law_next pm__law_next cd__law_next ct__law_next : Value}
    {f__law_pick : Addr} {od__law_pick an__law_pick : Option Addr} {sl__law_pick : Array (Option Value)} {oc__law_pick kV__law_pick dc__law_pick pm__law_pick cd__law_pick ct__law_pick : Value}
    {f__law_table : Addr} {od__law_table an__law_table : Option Addr} {sl__law_table : Array (Option Value)} {oc__law_table kV__law_table dc__law_table pm__law_table cd__law_table ct__law_table : Value}
    {f__law_alike : Addr} {od__law_alike an__law_alike : Option Addr} {sl__law_alike : Array (Option Value)} {oc__law_alike kV__law_alike dc__law_alike pm__law_alike cd__law_alike ct__law_alike : Value}
    {f__law_step : Addr} {od__law_step an__law_step : Option Addr} {sl__law_step : Array (Option Value)} {oc__law_step kV__law_step dc__law_step pm__law_step cd__law_step ct__law_step : Value}
    {f__law_fault : Addr} {od__law_fault an__law_fault : Option Addr} {sl__law_fault : Array (Option Value)} {oc__law_fault kV__law_fault dc__law_fault pm__law_fault cd__law_fault ct__law_fault : Value}
    {f__law_tried : Addr} {od__law_tried an__law_tried : Option Addr} {sl__law_tried : Array (Option Value)} {oc__law_tried kV__law_tried dc__law_tried pm__law_tried cd__law_tried ct__law_tried : Value}
    {f_law : Addr} {od_law an_law : Option Addr} {sl_law : Array (Option Value)} {oc_law kV_law dc_law pm_law cd_law ct_law : Value}
    (z_set : PySem.W.nsIn K mainGlobals "set" = some none)
    (z_len : PySem.W.nsIn K mainGlobals "len" = some none)
    (z_isinstance : PySem.W.nsIn K mainGlobals "isinstance" = some none)
    (z_int : PySem.W.nsIn K mainGlobals "int" = some none)
    (z_bool : PySem.W.nsIn K mainGlobals "bool" = some none)
    (z_tuple : PySem.W.nsIn K mainGlobals "tuple" = some none)
    (z_list : PySem.W.nsIn K mainGlobals "list" = some none)
    (z_str : PySem.W.nsIn K mainGlobals "str" = some none)
    (z_range : PySem.W.nsIn K mainGlobals "range" = some none)
    (z_enumerate : PySem.W.nsIn K mainGlobals "enumerate" = some none)
    (z_max : PySem.W.nsIn K mainGlobals "max" = some none)
    (z_min : PySem.W.nsIn K mainGlobals "min" = some none)
    (z_all : PySem.W.nsIn K mainGlobals "all" = some none)
    (z_any : PySem.W.nsIn K mainGlobals "any" = some none)
    (z_sorted : PySem.W.nsIn K mainGlobals "sorted" = some none)
    (z_sum : PySem.W.nsIn K mainGlobals "sum" = some none)
    (z_zip : PySem.W.nsIn K mainGlobals "zip" = some none)
    (g_MOST_STANDS : PySem.W.nsIn K mainGlobals "MOST_STANDS" = some (some (.int 6 t_MOST_STANDS)))
    (g_WRITTEN_LETTERS : PySem.W.nsIn K mainGlobals "WRITTEN_LETTERS" = some (some (.int 4 t_WRITTEN_LETTERS)))
    (g_LETTER_COUNTS : PySem.W.nsIn K mainGlobals "LETTER_COUNTS" = some (some (.ref a_LETTER_COUNTS)))
    (o_LETTER_COUNTS : K.lookup a_LETTER_COUNTS = some ⟨.type "tuple", dd_LETTER_COUNTS, .seq #[.int 2 t0_LETTER_COUNTS, .int 3 t1_LETTER_COUNTS] n_LETTER_COUNTS, sl_LETTER_COUNTS⟩)
    (aC : PySem.W.nsIn K mainGlobals "Machine" = some (some (.ref C)))
    (pgC : PySem.W.plainGet K C Str.empty = true)
    (hdC : PySem.W.hasDictIn K C = true)
    (poC : PySem.W.plainOver K C = true)
    (saC : PySem.W.findIn K (.ref C) "__setattr__" = some (some (.builtin "object.__setattr__")))
    (mkC : PySem.W.makesIn K C = true)
    (kcC : PySem.W.keepIn K (.ref C) = true)
    (n__table : PySem.W.findIn K (.ref C) "_table" = some none)
    (pa1_Machine_table : PySem.W.findIn K (.ref C) "table" = some (some (.ref pa_Machine_table)))
    (pa2_Machine_table : PySem.W.specialIn K (.ref pa_Machine_table) "__get__" = some (some (.builtin "property.__get__")))
    (pa3_Machine_table : PySem.W.takesIn K (.ref pa_Machine_table) = some true)
    (pa4_Machine_table : PySem.W.recIn K pa_Machine_table "property" = some (.ref f_Machine_table :: rest_Machine_table))
    (l_Machine_table : K.lookup f_Machine_table = some ⟨oc_Machine_table, od_Machine_table, .func (PySem.W.fnOf "table" "Machine.table" (defArgs s_Machine_table) (defBody s_Machine_table) (defScope s_Machine_table) .none kV_Machine_table dc_Machine_table pm_Machine_table an_Machine_table cd_Machine_table ct_Machine_table), sl_Machine_table⟩)
    (c_Machine_table : PySem.W.codeIn K cd_Machine_table "Machine.table" = true)
    (k_Machine_table : PySem.W.keepIn K (.ref f_Machine_table) = true)
    (pa1_Machine_letters : PySem.W.findIn K (.ref C) "letters" = some (some (.ref pa_Machine_letters)))
    (pa2_Machine_letters : PySem.W.specialIn K (.ref pa_Machine_letters) "__get__" = some (some (.builtin "property.__get__")))
    (pa3_Machine_letters : PySem.W.takesIn K (.ref pa_Machine_letters) = some true)
    (pa4_Machine_letters : PySem.W.recIn K pa_Machine_letters "property" = some (.ref f_Machine_letters :: rest_Machine_letters))
    (l_Machine_letters : K.lookup f_Machine_letters = some ⟨oc_Machine_letters, od_Machine_letters, .func (PySem.W.fnOf "letters" "Machine.letters" (defArgs s_Machine_letters) (defBody s_Machine_letters) (defScope s_Machine_letters) .none kV_Machine_letters dc_Machine_letters pm_Machine_letters an_Machine_letters cd_Machine_letters ct_Machine_letters), sl_Machine_letters⟩)
    (c_Machine_letters : PySem.W.codeIn K cd_Machine_letters "Machine.letters" = true)
    (k_Machine_letters : PySem.W.keepIn K (.ref f_Machine_letters) = true)
    (m1_Machine_len : PySem.W.findIn K (.ref C) "__len__" = some (some (.ref f_Machine_len)))
    (l_Machine_len : K.lookup f_Machine_len = some ⟨oc_Machine_len, od_Machine_len, .func (PySem.W.fnOf "__len__" "Machine.__len__" (defArgs s_Machine_len) (defBody s_Machine_len) (defScope s_Machine_len) .none kV_Machine_len dc_Machine_len pm_Machine_len an_Machine_len cd_Machine_len ct_Machine_len), sl_Machine_len⟩)
    (c_Machine_len : PySem.W.codeIn K cd_Machine_len "Machine.__len__" = true)
    (k_Machine_len : PySem.W.keepIn K (.ref f_Machine_len) = true)
    (m2_Machine_len : PySem.W.isFn K (.ref f_Machine_len) = true)
    (haC : PySem.W.findIn K (.ref C) "__class__" = some (some (.builtin "object.__class__")))
    (hmC : PySem.W.mroIn K C (.type "object") = some true)
    (hnO : PySem.W.specialIn K (.builtin "object.__class__") "__get__" = some (some (.builtin "getset_descriptor.__get__")))
    (htO : PySem.W.takesIn K (.builtin "object.__class__") = some true)
    (icC : PySem.W.isClsIn K C = true)
    (tcC : PySem.W.typeIn K (.ref C) = some (.type "type"))
    (stC : PySem.W.subIn K (.type "tuple") (.ref C) = some false)
    (m1_Machine_eq : PySem.W.findIn K (.ref C) "__eq__" = some (some (.ref f_Machine_eq)))
    (l_Machine_eq : K.lookup f_Machine_eq = some ⟨oc_Machine_eq, od_Machine_eq, .func (PySem.W.fnOf "__eq__" "Machine.__eq__" (defArgs s_Machine_eq) (defBody s_Machine_eq) (defScope s_Machine_eq) .none kV_Machine_eq dc_Machine_eq pm_Machine_eq an_Machine_eq cd_Machine_eq ct_Machine_eq), sl_Machine_eq⟩)
    (c_Machine_eq : PySem.W.codeIn K cd_Machine_eq "Machine.__eq__" = true)
    (k_Machine_eq : PySem.W.keepIn K (.ref f_Machine_eq) = true)
    (m2_Machine_eq : PySem.W.isFn K (.ref f_Machine_eq) = true)
    (z_super : PySem.W.nsIn K mainGlobals "super" = some none)
    (opq : PySem.W.nsIn K PySem.cStatics "thirdparty.any" = some none)
    (tops : (l.prog.main.scope.names.lookup ("super" : Str)).isSome = false)
    (gx_BadTable : PySem.W.nsIn K mainGlobals "BadTable" = some (some (.ref C_BadTable)))
    (xl_BadTable : K.lookup C_BadTable = some (excClassObj nm_BadTable qq_BadTable C_BadTable N_BadTable bs_BadTable [.ref C_StandError, .type "ValueError", .type "Exception", .type "BaseException", .type "object"] true sn_BadTable sub_BadTable ab_BadTable col_BadTable dd_BadTable m0_BadTable m1_BadTable m2_BadTable m3_BadTable m5_BadTable "ValueError.__new__"))
    (al_BadTable : PySem.W.ks_superIn K C_BadTable C_BadTable "__init__" = some (some (.builtin "ValueError.__init__")))
    (sa_BadTable : PySem.W.findIn K (.ref C_BadTable) "__setattr__" = some (some (.builtin "object.__setattr__")))
    (ga_BadTable : PySem.W.findIn K (.ref C_BadTable) "__getattribute__" = some (some (.builtin "BaseException.__getattribute__")))
    (gg_BadTable : PySem.W.findIn K (.ref C_BadTable) "__getattr__" = some none)
    (nb_BadTable : PySem.W.findIn K (.ref C_BadTable) "index" = some none)
    (i1_BadTable : PySem.W.findIn K (.ref C_BadTable) "__init__" = some (some (.ref f_BadTable)))
    (t1_BadTable : PySem.W.typeIn K (.ref f_BadTable) = some (.type "function"))
    (l_BadTable : K.lookup f_BadTable = some ⟨oc_BadTable, od_BadTable, .func (PySem.W.ksFn "__init__" "BadTable.__init__" (PySem.BadX.bA ⟨6, 17, 6, 21⟩ ⟨6, 23, 6, 28⟩) (PySem.BadX.bB "no table of a machine, index " 7 8 24 8 7 65 ⟨7, 8, 7, 13⟩ ⟨7, 8, 7, 15⟩ ⟨7, 27, 7, 56⟩ ⟨7, 57, 7, 62⟩ ⟨7, 56, 7, 63⟩ ⟨7, 25, 7, 64⟩ ⟨7, 8, 7, 65⟩ ⟨8, 8, 8, 12⟩ ⟨8, 8, 8, 18⟩ ⟨8, 21, 8, 26⟩ ⟨8, 8, 8, 26⟩) PySem.BadX.bS .none .none dc_BadTable pm_BadTable an_BadTable (.ref cda_BadTable) ct_BadTable cc_BadTable), sl_BadTable⟩)
    (c_BadTable : PySem.W.codeIn K (.ref cda_BadTable) "BadTable.__init__" = true)
    (cd_BadTable : K.lookup cda_BadTable = some ⟨ccl_BadTable, cdd_BadTable, .fields vs_BadTable, ccs_BadTable⟩)
    (vs_BadTable : vs_BadTable[2]? = some (.str file_BadTable tf_BadTable))
    (fi_BadTable : ((l.prog.main.file : Str) == file_BadTable) = true)
    (cc_BadTable : K.lookup cc_BadTable = some ⟨cl_BadTable, cld_BadTable, .cell (some (.ref C_BadTable)), csl_BadTable⟩)
    (kc_BadTable : PySem.W.keepIn K (.ref C_BadTable) = true)
    (ec_BadTable : PySem.W.subIn K (.ref C_BadTable) (.type "BaseException") = some true)
    (tc_BadTable : PySem.W.typeIn K (.ref C_BadTable) = some (.type "type"))
    (hc_BadTable : PySem.W.hasDictIn K C_BadTable = true)
    (ic_BadTable : PySem.W.isClsIn K C_BadTable = true)
    (sc_BadTable : PySem.W.subIn K (.ref C_BadTable) (.ref C_BadTable) = some true)
    (hx_BadTable : PySem.W.findIn K (.ref C_BadTable) "__class__" = some (some (.builtin "object.__class__")))
    (mx_BadTable : PySem.W.mroIn K C_BadTable (.type "object") = some true)
    (gx_StandError : PySem.W.nsIn K mainGlobals "StandError" = some (some (.ref C_StandError)))
    (ic_StandError : PySem.W.isClsIn K C_StandError = true)
    (tc_StandError : PySem.W.typeIn K (.ref C_StandError) = some (.type "type"))
    (su_BadTable_StandError : PySem.W.subIn K (.ref C_BadTable) (.ref C_StandError) = some true)
    (a_is_below : PySem.W.nsIn K mainGlobals "is_below" = some (some (.ref f_is_below)))
    (l_is_below : K.lookup f_is_below = some ⟨oc_is_below, od_is_below, .func (PySem.W.fnOf "is_below" "is_below" (defArgs s_is_below) (defBody s_is_below) (defScope s_is_below) .none kV_is_below dc_is_below pm_is_below an_is_below cd_is_below ct_is_below), sl_is_below⟩)
    (c_is_below : PySem.W.codeIn K cd_is_below "is_below" = true)
    (k_is_below : PySem.W.keepIn K (.ref f_is_below) = true)
    (a__is_step : PySem.W.nsIn K mainGlobals "_is_step" = some (some (.ref f__is_step)))
    (l__is_step : K.lookup f__is_step = some ⟨oc__is_step, od__is_step, .func (PySem.W.fnOf "_is_step" "_is_step" (defArgs s__is_step) (defBody s__is_step) (defScope s__is_step) .none kV__is_step dc__is_step pm__is_step an__is_step cd__is_step ct__is_step), sl__is_step⟩)
    (c__is_step : PySem.W.codeIn K cd__is_step "_is_step" = true)
    (k__is_step : PySem.W.keepIn K (.ref f__is_step) = true)
    (a__is_table_row : PySem.W.nsIn K mainGlobals "_is_table_row" = some (some (.ref f__is_table_row)))
    (l__is_table_row : K.lookup f__is_table_row = some ⟨oc__is_table_row, od__is_table_row, .func (PySem.W.fnOf "_is_table_row" "_is_table_row" (defArgs s__is_table_row) (defBody s__is_table_row) (defScope s__is_table_row) .none kV__is_table_row dc__is_table_row pm__is_table_row an__is_table_row cd__is_table_row ct__is_table_row), sl__is_table_row⟩)
    (c__is_table_row : PySem.W.codeIn K cd__is_table_row "_is_table_row" = true)
    (k__is_table_row : PySem.W.keepIn K (.ref f__is_table_row) = true)
    (a__check_table : PySem.W.nsIn K mainGlobals "_check_table" = some (some (.ref f__check_table)))
    (l__check_table : K.lookup f__check_table = some ⟨oc__check_table, od__check_table, .func (PySem.W.fnOf "_check_table" "_check_table" (defArgs s__check_table) (defBody s__check_table) (defScope s__check_table) .none kV__check_table dc__check_table pm__check_table an__check_table cd__check_table ct__check_table), sl__check_table⟩)
    (c__check_table : PySem.W.codeIn K cd__check_table "_check_table" = true)
    (k__check_table : PySem.W.keepIn K (.ref f__check_table) = true)
    (m1_Machine_init : PySem.W.findIn K (.ref C) "__init__" = some (some (.ref f_Machine_init)))
    (l_Machine_init : K.lookup f_Machine_init = some ⟨oc_Machine_init, od_Machine_init, .func (PySem.W.fnOf "__init__" "Machine.__init__" (defArgs s_Machine_init) (defBody s_Machine_init) (defScope s_Machine_init) .none kV_Machine_init dc_Machine_init pm_Machine_init an_Machine_init cd_Machine_init ct_Machine_init), sl_Machine_init⟩)
    (c_Machine_init : PySem.W.codeIn K cd_Machine_init "Machine.__init__" = true)
    (k_Machine_init : PySem.W.keepIn K (.ref f_Machine_init) = true)
    (m2_Machine_init : PySem.W.isFn K (.ref f_Machine_init) = true)
    (a__law_mix : PySem.W.nsIn K mainGlobals "_law_mix" = some (some (.ref f__law_mix)))
    (l__law_mix : K.lookup f__law_mix = some ⟨oc__law_mix, od__law_mix, .func (PySem.W.fnOf "_law_mix" "_law_mix" (defArgs s__law_mix) (defBody s__law_mix) (defScope s__law_mix) .none kV__law_mix dc__law_mix pm__law_mix an__law_mix cd__law_mix ct__law_mix), sl__law_mix⟩)
    (c__law_mix : PySem.W.codeIn K cd__law_mix "_law_mix" = true)
    (k__law_mix : PySem.W.keepIn K (.ref f__law_mix) = true)
    (a__law_next : PySem.W.nsIn K mainGlobals "_law_next" = some (some (.ref f__law_next)))
    (l__law_next : K.lookup f__law_next = some ⟨oc__law_next, od__law_next, .func (PySem.W.fnOf "_law_next" "_law_next" (defArgs s__law_next) (defBody s__law_next) (defScope s__law_next) .none kV__law_next dc__law_next pm__law_next an__law_next cd__law_next ct__law_next), sl__law_next⟩)
    (c__law_next : PySem.W.codeIn K cd__law_next "_law_next" = true)
    (k__law_next : PySem.W.keepIn K (.ref f__law_next) = true)
    (a__law_pick : PySem.W.nsIn K mainGlobals "_law_pick" = some (some (.ref f__law_pick)))
    (l__law_pick : K.lookup f__law_pick = some ⟨oc__law_pick, od__law_pick, .func (PySem.W.fnOf "_law_pick" "_law_pick" (defArgs s__law_pick) (defBody s__law_pick) (defScope s__law_pick) .none kV__law_pick dc__law_pick pm__law_pick an__law_pick cd__law_pick ct__law_pick), sl__law_pick⟩)
    (c__law_pick : PySem.W.codeIn K cd__law_pick "_law_pick" = true)
    (k__law_pick : PySem.W.keepIn K (.ref f__law_pick) = true)
    (a__law_table : PySem.W.nsIn K mainGlobals "_law_table" = some (some (.ref f__law_table)))
    (l__law_table : K.lookup f__law_table = some ⟨oc__law_table, od__law_table, .func (PySem.W.fnOf "_law_table" "_law_table" (defArgs s__law_table) (defBody s__law_table) (defScope s__law_table) .none kV__law_table dc__law_table pm__law_table an__law_table cd__law_table ct__law_table), sl__law_table⟩)
    (c__law_table : PySem.W.codeIn K cd__law_table "_law_table" = true)
    (k__law_table : PySem.W.keepIn K (.ref f__law_table) = true)
    (a__law_alike : PySem.W.nsIn K mainGlobals "_law_alike" = some (some (.ref f__law_alike)))
    (l__law_alike : K.lookup f__law_alike = some ⟨oc__law_alike, od__law_alike, .func (PySem.W.fnOf "_law_alike" "_law_alike" (defArgs s__law_alike) (defBody s__law_alike) (defScope s__law_alike) .none kV__law_alike dc__law_alike pm__law_alike an__law_alike cd__law_alike ct__law_alike), sl__law_alike⟩)
    (c__law_alike : PySem.W.codeIn K cd__law_alike "_law_alike" = true)
    (k__law_alike : PySem.W.keepIn K (.ref f__law_alike) = true)
    (a__law_step : PySem.W.nsIn K mainGlobals "_law_step" = some (some (.ref f__law_step)))
    (l__law_step : K.lookup f__law_step = some ⟨oc__law_step, od__law_step, .func (PySem.W.fnOf "_law_step" "_law_step" (defArgs s__law_step) (defBody s__law_step) (defScope s__law_step) .none kV__law_step dc__law_step pm__law_step an__law_step cd__law_step ct__law_step), sl__law_step⟩)
    (c__law_step : PySem.W.codeIn K cd__law_step "_law_step" = true)
    (k__law_step : PySem.W.keepIn K (.ref f__law_step) = true)
    (a__law_fault : PySem.W.nsIn K mainGlobals "_law_fault" = some (some (.ref f__law_fault)))
    (l__law_fault : K.lookup f__law_fault = some ⟨oc__law_fault, od__law_fault, .func (PySem.W.fnOf "_law_fault" "_law_fault" (defArgs s__law_fault) (defBody s__law_fault) (defScope s__law_fault) .none kV__law_fault dc__law_fault pm__law_fault an__law_fault cd__law_fault ct__law_fault), sl__law_fault⟩)
    (c__law_fault : PySem.W.codeIn K cd__law_fault "_law_fault" = true)
    (k__law_fault : PySem.W.keepIn K (.ref f__law_fault) = true)
    (a__law_tried : PySem.W.nsIn K mainGlobals "_law_tried" = some (some (.ref f__law_tried)))
    (l__law_tried : K.lookup f__law_tried = some ⟨oc__law_tried, od__law_tried, .func (PySem.W.fnOf "_law_tried" "_law_tried" (defArgs s__law_tried) (defBody s__law_tried) (defScope s__law_tried) .none kV__law_tried dc__law_tried pm__law_tried an__law_tried cd__law_tried ct__law_tried), sl__law_tried⟩)
    (c__law_tried : PySem.W.codeIn K cd__law_tried "_law_tried" = true)
    (k__law_tried : PySem.W.keepIn K (.ref f__law_tried) = true)
    (a_law : PySem.W.nsIn K mainGlobals "law" = some (some (.ref f_law)))
    (l_law : K.lookup f_law = some ⟨oc_law, od_law, .func (PySem.W.fnOf "law" "law" (defArgs s_law) (defBody s_law) (defScope s_law) .none kV_law dc_law pm_law an_law cd_law ct_law), sl_law⟩)
    (c_law : PySem.W.codeIn K cd_law "law" = true)
    (k_law : PySem.W.keepIn K (.ref f_law) = true)
    : ∃ fd : FuncData, (∀ (s : Shared) (v : Value), BindsTo s fd ⟨[v], []⟩ [("_law_script", v)]) ∧ ∀ base : Heap, K.In base → base.Ns mainGlobals mg → FnOk l.prog w K mg base CX0 9 fa fd ["_law_script"] (spLaw K) := by
  have e := hfa.symm.trans (PySem.W.mg_of X G a_law)
  cases e
  refine ⟨PySem.W.fnOf "law" "law" (defArgs s_law) (defBody s_law) (defScope s_law) .none kV_law dc_law pm_law an_law cd_law ct_law, fun s v => .of_eq rfl, fun base _ _ => ?_⟩
  have B : Blt mg := ⟨PySem.W.mg_none_of X G z_set, PySem.W.mg_none_of X G z_len, PySem.W.mg_none_of X G z_isinstance, PySem.W.mg_none_of X G z_int, PySem.W.mg_none_of X G z_bool, PySem.W.mg_none_of X G z_tuple, PySem.W.mg_none_of X G z_list, PySem.W.mg_none_of X G z_str, PySem.W.mg_none_of X G z_range, PySem.W.mg_none_of X G z_enumerate, PySem.W.mg_none_of X G z_max, PySem.W.mg_none_of X G z_min, PySem.W.mg_none_of X G z_all, PySem.W.mg_none_of X G z_any, PySem.W.mg_none_of X G z_sorted, PySem.W.mg_none_of X G z_sum, PySem.W.mg_none_of X G z_zip⟩
  have gi_MOST_STANDS := PySem.W.mg_of X G g_MOST_STANDS
  have gi_WRITTEN_LETTERS := PySem.W.mg_of X G g_WRITTEN_LETTERS
  have gr_LETTER_COUNTS := PySem.W.mg_of X G g_LETTER_COUNTS
  have h_LETTER_COUNTS : ∀ H : Hp, SqT K H a_LETTER_COUNTS [.int 2, .int 3] := fun H => .inr ⟨_, _, _, o_LETTER_COUNTS, rfl, rfl, (by show 2 ≤ sizeLine; decide), (.cons ⟨_, rfl⟩ (.cons ⟨_, rfl⟩ .nil))⟩
  have T : Txt K C := ⟨⟨pgC, hdC, poC, saC⟩, n__table⟩
  have F_Machine_table := fun_mk (st := s_Machine_table) l_Machine_table c_Machine_table k_Machine_table
  have p_table : PropK l.prog w K mg base 1 C "table" (spMGet K C) := ⟨T.cl, pa_Machine_table, f_Machine_table, _, ⟨pa1_Machine_table, pa2_Machine_table, pa3_Machine_table, rest_Machine_table, pa4_Machine_table⟩, ok_Machine_table F_Machine_table T, F_Machine_table.binds (ps := ["self"]) fun _ _ _ _ _ _ us hl => match us, hl with | [_], _ => rfl⟩
  have F_Machine_letters := fun_mk (st := s_Machine_letters) l_Machine_letters c_Machine_letters k_Machine_letters
  have p_letters : PropK l.prog w K mg base 1 C "letters" (spMLet K C) := ⟨T.cl, pa_Machine_letters, f_Machine_letters, _, ⟨pa1_Machine_letters, pa2_Machine_letters, pa3_Machine_letters, rest_Machine_letters, pa4_Machine_letters⟩, ok_Machine_letters F_Machine_letters T B, F_Machine_letters.binds (ps := ["self"]) fun _ _ _ _ _ _ us hl => match us, hl with | [_], _ => rfl⟩
  have F_Machine_len := fun_mk (st := s_Machine_len) l_Machine_len c_Machine_len k_Machine_len
  have l_Machine : LenK l.prog w K mg base 1 C (spMLen K C) := ⟨f_Machine_len, _, m1_Machine_len, m2_Machine_len, ok_Machine_len F_Machine_len T B, F_Machine_len.binds (ps := ["self"]) fun _ _ _ _ _ _ us hl => match us, hl with | [_], _ => rfl⟩
  have gm_Machine := PySem.W.mg_of X G aC
  have I_Machine : InsC K C := ⟨T.cl, haC, hnO, htO, hmC, if_pos (beq_self_eq_true _), kit_ref icC tcC stC (fun z => nomatch z)⟩
  have F_Machine_eq := fun_mk (st := s_Machine_eq) l_Machine_eq c_Machine_eq k_Machine_eq
  have e_Machine : EqK l.prog w K mg base 1 C (spMEq K C) := ⟨⟨f_Machine_eq, _, m1_Machine_eq, m2_Machine_eq, ok_Machine_eq F_Machine_eq T B I_Machine gm_Machine, F_Machine_eq.binds (ps := ["self", "other"]) fun _ _ _ _ _ _ us hl => match us, hl with | [_, _], _ => rfl⟩, stC⟩
  have g_StandError := PySem.W.mg_of X G gx_StandError
  have kit_BadTable_StandError := kit_ref ic_StandError tc_StandError su_BadTable_StandError (fun _ => rfl)
  have ex_BadTable : ExcC K C_BadTable := ⟨ga_BadTable, gg_BadTable, ec_BadTable, hc_BadTable, hx_BadTable, hnO, htO, mx_BadTable⟩
  have x_BadTable : PySem.BadX.BadTxt l.prog K mg "BadTable" "BadTable.__init__" C_BadTable f_BadTable := { gC := PySem.W.mg_of X G gx_BadTable, cls := ⟨_, _, _, _, _, _, _, _, _, _, _, _, _, _, _, xl_BadTable, rfl, PySem.BadX.along_of xl_BadTable al_BadTable⟩, sa := sa_BadTable, ga := ga_BadTable, gg := gg_BadTable, noN := nb_BadTable, iC := i1_BadTable, tC := t1_BadTable, kC := kc_BadTable, exC := ec_BadTable, tyC := tc_BadTable, hdC := hc_BadTable, te := PySem.BadX.exm_self ec_BadTable ic_BadTable tc_BadTable sc_BadTable, noS := PySem.W.mg_none_of X G z_super, top := tops, opq := opq, fn := ⟨_, _, _, _, _, _, _, _, _, _, _, _, _, _, _, _, _, _, _, _, _, _, _, _, _, _, _, _, _, l_BadTable, c_BadTable, ⟨_, _, _, _, _, _, cd_BadTable, vs_BadTable, fi_BadTable⟩, ⟨_, _, _, cc_BadTable⟩, by decide +kernel, by decide +kernel, by decide +kernel⟩ }
  have F_is_below := fun_mk (st := s_is_below) l_is_below c_is_below k_is_below
  have bd_is_below := F_is_below.binds (ps := P_is_below) fun _ _ _ _ _ _ us hl => match us, hl with | [_, _], _ => rfl
  have mg_is_below := PySem.W.mg_of X G a_is_below
  have G_is_below : DefK l.prog w K mg base CX0 1 "is_below" P_is_below (spBelow K) := ⟨f_is_below, _, ok_is_below F_is_below B, mg_is_below, k_is_below, bd_is_below⟩
  have F__is_step := fun_mk (st := s__is_step) l__is_step c__is_step k__is_step
  have bd__is_step := F__is_step.binds (ps := P__is_step) fun _ _ _ _ _ _ us hl => match us, hl with | [_, _], _ => rfl
  have mg__is_step := PySem.W.mg_of X G a__is_step
  have G__is_step : DefK l.prog w K mg base CX0 2 "_is_step" P__is_step (spStep K) := ⟨f__is_step, _, ok_is_step F__is_step B gi_WRITTEN_LETTERS G_is_below, mg__is_step, k__is_step, bd__is_step⟩
  have F__is_table_row := fun_mk (st := s__is_table_row) l__is_table_row c__is_table_row k__is_table_row
  have bd__is_table_row := F__is_table_row.binds (ps := P__is_table_row) fun _ _ _ _ _ _ us hl => match us, hl with | [_, _], _ => rfl
  have mg__is_table_row := PySem.W.mg_of X G a__is_table_row
  have G__is_table_row : DefK l.prog w K mg base CX0 3 "_is_table_row" P__is_table_row (spRowOk K) := ⟨f__is_table_row, _, ok_is_table_row F__is_table_row B gr_LETTER_COUNTS h_LETTER_COUNTS G__is_step, mg__is_table_row, k__is_table_row, bd__is_table_row⟩
  have F__check_table := fun_mk (st := s__check_table) l__check_table c__check_table k__check_table
  have bd__check_table := F__check_table.binds (ps := P__check_table) fun _ _ _ _ _ _ us hl => match us, hl with | [_], _ => rfl
  have mg__check_table := PySem.W.mg_of X G a__check_table
  have G__check_table : DefK l.prog w K mg base (L2.CX l.prog w) 4 "_check_table" P__check_table (spTabX K C_BadTable) := ⟨f__check_table, _, ok_check_tableX F__check_table B gi_MOST_STANDS G__is_table_row x_BadTable, mg__check_table, k__check_table, bd__check_table⟩
  have F_Machine_init := fun_mk (st := s_Machine_init) l_Machine_init c_Machine_init k_Machine_init
  have m_Machine : MkK l.prog w K mg base (L2.CX l.prog w) 5 C "Machine" P_Machine_init (spMInitX K C C_BadTable) := ⟨PySem.W.mg_of X G aC, f_Machine_init, _, ⟨mkC, m1_Machine_init, m2_Machine_init, kcC⟩, ok_Machine_initX F_Machine_init T G__check_table, F_Machine_init.binds (ps := P_Machine_init) fun _ _ _ _ _ _ us hl => match us, hl with | [_, _], _ => rfl⟩
  have F__law_mix := fun_mk (st := s__law_mix) l__law_mix c__law_mix k__law_mix
  have bd__law_mix := F__law_mix.binds (ps := P__law_mix) fun _ _ _ _ _ _ us hl => match us, hl with | [_, _], _ => rfl
  have mg__law_mix := PySem.W.mg_of X G a__law_mix
  have G__law_mix : DefK l.prog w K mg base CX0 1 "_law_mix" P__law_mix (spMix K) := ⟨f__law_mix, _, ok_law_mix F__law_mix B, mg__law_mix, k__law_mix, bd__law_mix⟩
  have F__law_next := fun_mk (st := s__law_next) l__law_next c__law_next k__law_next
  have bd__law_next := F__law_next.binds (ps := P__law_next) fun _ _ _ _ _ _ us hl => match us, hl with | [_, _], _ => rfl
  have mg__law_next := PySem.W.mg_of X G a__law_next
  have G__law_next : DefK l.prog w K mg base CX0 1 "_law_next" P__law_next (spNext) := ⟨f__law_next, _, ok_law_next F__law_next B, mg__law_next, k__law_next, bd__law_next⟩
  have F__law_pick := fun_mk (st := s__law_pick) l__law_pick c__law_pick k__law_pick
  have bd__law_pick := F__law_pick.binds (ps := P__law_pick) fun _ _ _ _ _ _ us hl => match us, hl with | [_, _], _ => rfl
  have mg__law_pick := PySem.W.mg_of X G a__law_pick
  have G__law_pick : DefK l.prog w K mg base CX0 2 "_law_pick" P__law_pick (spPick) := ⟨f__law_pick, _, ok_law_pick F__law_pick B G__law_next, mg__law_pick, k__law_pick, bd__law_pick⟩
  have F__law_table := fun_mk (st := s__law_table) l__law_table c__law_table k__law_table
  have bd__law_table := F__law_table.binds (ps := P__law_table) fun _ _ _ _ _ _ us hl => match us, hl with | [_], _ => rfl
  have mg__law_table := PySem.W.mg_of X G a__law_table
  have G__law_table : DefK l.prog w K mg base CX0 3 "_law_table" P__law_table (spTable K) := ⟨f__law_table, _, ok_law_table F__law_table B G__law_next G__law_pick, mg__law_table, k__law_table, bd__law_table⟩
  have F__law_alike := fun_mk (st := s__law_alike) l__law_alike c__law_alike k__law_alike
  have bd__law_alike := F__law_alike.binds (ps := P__law_alike) fun _ _ _ _ _ _ us hl => match us, hl with | [_, _], _ => rfl
  have mg__law_alike := PySem.W.mg_of X G a__law_alike
  have G__law_alike : DefK l.prog w K mg base CX0 5 "_law_alike" P__law_alike (spAlike K 5) := ⟨f__law_alike, _, ok_law_alike F__law_alike B mg__law_alike bd__law_alike 5, mg__law_alike, k__law_alike, bd__law_alike⟩
  have F__law_step := fun_mk (st := s__law_step) l__law_step c__law_step k__law_step
  have bd__law_step := F__law_step.binds (ps := P__law_step) fun _ _ _ _ _ _ us hl => match us, hl with | [_, _], _ => rfl
  have mg__law_step := PySem.W.mg_of X G a__law_step
  have G__law_step : DefK l.prog w K mg base CX0 1 "_law_step" P__law_step (spLStep K) := ⟨f__law_step, _, ok_law_step F__law_step B, mg__law_step, k__law_step, bd__law_step⟩
  have F__law_fault := fun_mk (st := s__law_fault) l__law_fault c__law_fault k__law_fault
  have bd__law_fault := F__law_fault.binds (ps := P__law_fault) fun _ _ _ _ _ _ us hl => match us, hl with | [_], _ => rfl
  have mg__law_fault := PySem.W.mg_of X G a__law_fault
  have G__law_fault : DefK l.prog w K mg base CX0 2 "_law_fault" P__law_fault (spLFault K) := ⟨f__law_fault, _, ok_law_fault F__law_fault B G__law_step, mg__law_fault, k__law_fault, bd__law_fault⟩
  have F__law_tried := fun_mk (st := s__law_tried) l__law_tried c__law_tried k__law_tried
  have bd__law_tried := F__law_tried.binds (ps := P__law_tried) fun _ _ _ _ _ _ us hl => match us, hl with | [_], _ => rfl
  have mg__law_tried := PySem.W.mg_of X G a__law_tried
  have G__law_tried : DefK l.prog w K mg base CX0 8 "_law_tried" P__law_tried (spTried K C) := ⟨f__law_tried, _, ok_law_tried F__law_tried B x_BadTable ex_BadTable g_StandError kit_BadTable_StandError m_Machine, mg__law_tried, k__law_tried, bd__law_tried⟩
  exact ok_law (fun_mk (st := s_law) l_law c_law k_law) B G__law_mix G__law_next G__law_pick G__law_table G__law_tried G__law_fault G__law_alike m_Machine gm_Machine I_Machine e_Machine p_table p_letters l_Machine
theorem walk_law {l : PySem.W.OpenLaw} {q : Program} {loose : List Str} {XP : (Str → Option Value) → Heap → Prop} {YP : World → Heap → Prop} {d : DefRec} {K : Params → PySem.W.Frag} (hn : l.most = some 63) (hdf : d.params.defaults = [])
    (hY : ∀ (w : World) (h : Heap), YP w h → (K w.params).In h)
    (F : ∀ (w : World) (mg : Str → Option Value) (fa : Addr) (h : Heap), (K w.params).In h → h.Ns mainGlobals mg → mg d.name = some (.ref fa) →
      ∃ fd : FuncData, (∀ (s : Shared) (u : Value), BindsTo s fd ⟨[u], []⟩ [("_law_script", u)]) ∧ ∀ base : Heap, (K w.params).In base → base.Ns mainGlobals mg → FnOk l.prog w (K w.params) mg base CX0 9 fa fd ["_law_script"] (spLaw (K w.params))) :
    PySem.W.WalkO q loose XP YP l.row.toRowW d [] (fun f vs => PySem.call f vs) :=
  L2.walk_of (n := 63) (k := 9) (x := "_law_script") (CX := fun _ => CX0) (sp := fun w => spLaw (K w.params)) hn (by decide) hdf ⟨rfl, by decide, by decide⟩ hY F (fun _ _ a ns hl _ hS => ⟨a, ns, rfl, hS, hl, fun _ => rfl⟩) fun _ _ _ _ _ z => z
end WS
open PySem PySem.W PyProof.Rows in
set_option maxRecDepth 100000 in
set_option maxHeartbeats 0 in
theorem PySem.Challenge.cw_whichstand_k01_tables_refused_holds : PySem.Challenge.rw_whichstand_k01_tables_refused.Holds := by
  w_on; o_law; k_head; (case hw => w_witness2)
  k_fill
  refine WS.walk_law (l := PySem.Challenge.rw_whichstand_k01_tables_refused) rfl rfl (fun w h Y => PySem.W.kIn_of Y) ?F
  case F =>
    intro w mg fa h KX G hmg
    refine' WS.all_mk KX G hmg ?z_set ?z_len ?z_isinstance ?z_int ?z_bool ?z_tuple ?z_list ?z_str ?z_range ?z_enumerate ?z_max ?z_min ?z_all ?z_any ?z_sorted ?z_sum ?z_zip ?g_MOST_STANDS ?g_WRITTEN_LETTERS ?g_LETTER_COUNTS ?o_LETTER_COUNTS ?aC ?pgC ?hdC ?poC ?saC ?mkC ?kcC ?n__table ?pa1_Machine_table ?pa2_Machine_table ?pa3_Machine_table ?pa4_Machine_table ?l_Machine_table ?c_Machine_table ?k_Machine_table ?pa1_Machine_letters ?pa2_Machine_letters ?pa3_Machine_letters ?pa4_Machine_letters ?l_Machine_letters ?c_Machine_letters ?k_Machine_letters ?m1_Machine_len ?l_Machine_len ?c_Machine_len ?k_Machine_len ?m2_Machine_len ?haC ?hmC ?hnO ?htO ?icC ?tcC ?stC ?m1_Machine_eq ?l_Machine_eq ?c_Machine_eq ?k_Machine_eq ?m2_Machine_eq ?z_super ?opq ?tops ?gx_BadTable ?xl_BadTable ?al_BadTable ?sa_BadTable ?ga_BadTable ?gg_BadTable ?nb_BadTable ?i1_BadTable ?t1_BadTable ?l_BadTable ?c_BadTable ?cd_BadTable ?vs_BadTable ?fi_BadTable ?cc_BadTable ?kc_BadTable ?ec_BadTable ?tc_BadTable ?hc_BadTable ?ic_BadTable ?sc_BadTable ?hx_BadTable ?mx_BadTable ?gx_StandError ?ic_StandError ?tc_StandError ?su_BadTable_StandError ?a_is_below ?l_is_below ?c_is_below ?k_is_below ?a__is_step ?l__is_step ?c__is_step ?k__is_step ?a__is_table_row ?l__is_table_row ?c__is_table_row ?k__is_table_row ?a__check_table ?l__check_table ?c__check_table ?k__check_table ?m1_Machine_init ?l_Machine_init ?c_Machine_init ?k_Machine_init ?m2_Machine_init ?a__law_mix ?l__law_mix ?c__law_mix ?k__law_mix ?a__law_next ?l__law_next ?c__law_next ?k__law_next ?a__law_pick ?l__law_pick ?c__law_pick ?k__law_pick ?a__law_table ?l__law_table ?c__law_table ?k__law_table ?a__law_alike ?l__law_alike ?c__law_alike ?k__law_alike ?a__law_step ?l__law_step ?c__law_step ?k__law_step ?a__law_fault ?l__law_fault ?c__law_fault ?k__law_fault ?a__law_tried ?l__law_tried ?c__law_tried ?k__law_tried ?a_law ?l_law ?c_law ?k_law
    (case z_set => k_is)
    (case z_len => k_is)
    (case z_isinstance => k_is)
    (case z_int => k_is)
    (case z_bool => k_is)
    (case z_tuple => k_is)
    (case z_list => k_is)
    (case z_str => k_is)
    (case z_range => k_is)
    (case z_enumerate => k_is)
    (case z_max => k_is)
    (case z_min => k_is)
    (case z_all => k_is)
    (case z_any => k_is)
    (case z_sorted => k_is)
    (case z_sum => k_is)
    (case z_zip => k_is)
    (case g_MOST_STANDS => k_is)
    (case g_WRITTEN_LETTERS => k_is)
    (case g_LETTER_COUNTS => k_is)
    (case o_LETTER_COUNTS => k_is)
    (case aC => k_is)
    (case pgC => k_is)
    (case hdC => k_is)
    (case poC => k_is)
    (case saC => k_is)
    (case mkC => k_is)
    (case kcC => k_is)
    (case n__table => k_is)
    (case pa1_Machine_table => k_is)
    (case pa2_Machine_table => k_is)
    (case pa3_Machine_table => k_is)
    (case pa4_Machine_table => k_is)
    (case l_Machine_table => k_is)
    (case c_Machine_table => k_is)
    (case k_Machine_table => k_is)
    (case pa1_Machine_letters => k_is)
    (case pa2_Machine_letters => k_is)
    (case pa3_Machine_letters => k_is)
    (case pa4_Machine_letters => k_is)
    (case l_Machine_letters => k_is)
    (case c_Machine_letters => k_is)
    (case k_Machine_letters => k_is)
    (case m1_Machine_len => k_is)
    (case l_Machine_len => k_is)
    (case c_Machine_len => k_is)
    (case k_Machine_len => k_is)
    (case m2_Machine_len => k_is)
    (case haC => k_is)
    (case hmC => k_is)
    (case hnO => k_is)
    (case htO => k_is)
    (case icC => k_is)
    (case tcC => k_is)
    (case stC => k_is)
    (case m1_Machine_eq => k_is)
    (case l_Machine_eq => k_is)
    (case c_Machine_eq => k_is)
    (case k_Machine_eq => k_is)
    (case m2_Machine_eq => k_is)
    (case z_super => k_is)
    (case opq => k_is)
    (case tops => first | rfl | kernel_rfl | decide +kernel)
    (case gx_BadTable => k_is)
    (case xl_BadTable => k_is)
    (case al_BadTable => ks_is)
    (case sa_BadTable => k_is)
    (case ga_BadTable => k_is)
    (case gg_BadTable => k_is)
    (case nb_BadTable => k_is)
    (case i1_BadTable => k_is)
    (case t1_BadTable => k_is)
    (case l_BadTable => k_is)
    (case c_BadTable => k_is)
    (case cd_BadTable => k_is)
    (case vs_BadTable => first | rfl | kernel_rfl | decide +kernel)
    (case fi_BadTable => first | rfl | kernel_rfl | decide +kernel)
    (case cc_BadTable => k_is)
    (case kc_BadTable => k_is)
    (case ec_BadTable => k_is)
    (case tc_BadTable => k_is)
    (case hc_BadTable => k_is)
    (case ic_BadTable => k_is)
    (case sc_BadTable => first | rfl | k_is)
    (case hx_BadTable => k_is)
    (case mx_BadTable => k_is)
    (case gx_StandError => k_is)
    (case ic_StandError => k_is)
    (case tc_StandError => k_is)
    (case su_BadTable_StandError => k_is)
    (case a_is_below => k_is)
    (case l_is_below => k_is)
    (case c_is_below => k_is)
    (case k_is_below => k_is)
    (case a__is_step => k_is)
    (case l__is_step => k_is)
    (case c__is_step => k_is)
    (case k__is_step => k_is)
    (case a__is_table_row => k_is)
    (case l__is_table_row => k_is)
    (case c__is_table_row => k_is)
    (case k__is_table_row => k_is)
    (case a__check_table => k_is)
    (case l__check_table => k_is)
    (case c__check_table => k_is)
    (case k__check_table => k_is)
    (case m1_Machine_init => k_is)
    (case l_Machine_init => k_is)
    (case c_Machine_init => k_is)
    (case k_Machine_init => k_is)
    (case m2_Machine_init => k_is)
    (case a__law_mix => k_is)
    (case l__law_mix => k_is)
    (case c__law_mix => k_is)
    (case k__law_mix => k_is)
    (case a__law_next => k_is)
    (case l__law_next => k_is)
    (case c__law_next => k_is)
    (case k__law_next => k_is)
    (case a__law_pick => k_is)
    (case l__law_pick => k_is)
    (case c__law_pick => k_is)
    (case k__law_pick => k_is)
    (case a__law_table => k_is)
    (case l__law_table => k_is)
    (case c__law_table => k_is)
    (case k__law_table => k_is)
    (case a__law_alike => k_is)
    (case l__law_alike => k_is)
    (case c__law_alike => k_is)
    (case k__law_alike => k_is)
    (case a__law_step => k_is)
    (case l__law_step => k_is)
    (case c__law_step => k_is)
    (case k__law_step => k_is)
    (case a__law_fault => k_is)
    (case l__law_fault => k_is)
    (case c__law_fault => k_is)
    (case k__law_fault => k_is)
    (case a__law_tried => k_is)
    (case l__law_tried => k_is)
    (case c__law_tried => k_is)
    (case k__law_tried => k_is)
    (case a_law => k_is)
    (case l_law => k_is)
    (case c_law => k_is)
    (case k_law => k_is)
