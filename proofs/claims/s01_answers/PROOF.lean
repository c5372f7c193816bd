import PyProof.Rows.All
import Wide.All
import OpenK.AllK
import Wide.FinOn
import Open.SpecLaws
import KE.OsGo
import KE.KRevSl
import HandS.Base
import HandS.Call
import HandS.List
import HandS.Comp
import HandS.Dict
import HandS.Iter
import HandS.Text
import HandS.Ends
import HandS.Words
import HandS.WordsList
import HandS.Conv
import HandS.Codes
import HandS.Evl
import HandS.Deep
import HandS.Set
import HandS.Strs
import HandS.SetFor
import HandS.Spec
import HandS.Walk
import Su193Spec
import Su193Neutral
import PySu193
import PySem.Challenge.RW_truthfulchoice_s01_answers
set_option Elab.async false
set_option maxRecDepth 100000
set_option maxHeartbeats 4000000
set_option linter.all false

namespace Tc
open PySem PySem.Spec PyProof.Rows L2

/-! ## Rules that the layer lacks -/
section
variable {X : Cx}
theorem ip_or : PIp X .BitOr (ipI fun i j => Builtin.bitOr i j) := by
  intro pins s σ H x y v u Q I r1 r2 h
  exact iop_or pins s σ H x y v u Q I r1 r2 h
def CMulT (i _j : Int) : Prop := -(2 ^ 64) < i ∧ i < 2 ^ 64
/-- x *= n -/
def ipMul : TIp := fun x y H Q => ∃ i j, x = .int i ∧ y = .int j ∧ CMulT i j ∧ Q (.int (i * j)) H
theorem ip_mul : PIp X .Mult ipMul := by
  intro pins s σ H x y v u Q I r1 r2 h
  obtain ⟨i, j, e1, e2, hc, q⟩ := h
  exact iop_mul pins s σ H x y v u Q I r1 r2 ⟨i, j, e1, e2, .inl hc, q⟩
/-- a list's item, by values -/
def rGet (K : PySem.W.Frag) : V → V → Hp → VK → Prop := fun o i H Q => ∃ (p : Addr) (xs : List V) (k : Nat) (v : V), o = .ref p ∧ i = .int (k : Int) ∧ SqL K H p xs ∧ xs[k]? = some v ∧ Q v H
theorem get_list : PGet X (rGet X.K) := by
  intro pins s σ H o i ov iv Q I ro ri h
  obtain ⟨p, xs, k, v, e1, e2, hq, hk, q⟩ := h
  subst e1 e2
  cases ro
  obtain ⟨t, et⟩ := ri
  subst et
  obtain ⟨us, rv, pl, hz⟩ := I.list hq
  obtain ⟨u, hu, ru⟩ := rv.get hk
  have hlen : k < xs.length := (List.getElem?_eq_some_iff.mp hk).1
  have h63 : (sizeLine : Int) < 2 ^ 63 := by decide
  refine wpAny_getItem_list pl.isList (Int.natCast_nonneg k) (by omega) (x := u) (by simpa using hu) ⟨v, H, I, ru, q⟩
/-- an instance made with nothing handed in -/
theorem pe_mk0 {k j : Nat} {C : Addr} {x : Str} {sp : Sp} {dvs : List V} {p pos : Pos} (c : C8.Mak X.prog X.w X.K X.mg X.base k x C sp dvs) (hr : Room j X.A) (hk : k + 1 ≤ j) (hg : Gl X x)
    (hdb : (x == ("__debug__" : Str)) = false := by decide) : PE X (.Call (.Name x p) [] [] pos) (tMake C sp dvs C8.E0 tNil) := by
  obtain ⟨f, fd, ps, ds, M, F, hm, b, d⟩ := c.ex
  exact pe_make0 M F (hr.mono hk) hg hm b d C8.pass0 hdb
/-- what a slice with a step takes -/
def pickV {α : Type} (xs : List α) (lo hi : Option Int) (c : Int) : List α :=
  (sliceRange (sliceBounds lo hi (some c) xs.length).1 (sliceBounds lo hi (some c) xs.length).2.1 (sliceBounds lo hi (some c) xs.length).2.2).filterMap fun i => xs[i]?
theorem vals_pick {xs : List V} {us : List Value} (r : Vals xs us) : ∀ l : List Nat, Vals (l.filterMap fun i => xs[i]?) (l.filterMap fun i => us[i]?)
  | [] => .nil
  | i :: l => by
    rw [List.filterMap_cons, List.filterMap_cons]
    cases hx : xs[i]? with
    | none =>
      rw [r.none_of hx]
      exact vals_pick r l
    | some x =>
      obtain ⟨u, hu, ru⟩ := r.get hx
      rw [hu]
      exact .cons ru (vals_pick r l)
theorem slicePick_V {xs : List V} {us : List Value} (r : Vals xs us) (lo hi : Option Int) (c : Int) : ∃ ws : List Value, slicePick us.toArray lo hi (some c) = ws.toArray ∧ Vals (pickV xs lo hi c) ws := by
  refine ⟨pickV us lo hi c, ?_, ?_⟩
  · unfold slicePick pickV
    rw [List.size_toArray]
    congr 2
    funext i
    simp
  · unfold pickV
    rw [r.length]
    exact vals_pick r _
def tSlS (K : PySem.W.Frag) (te : TE) (tl th ts : TO) : TE := fun σ H Q => te σ H fun x H1 => tl σ H1 fun lo H2 => th σ H2 fun hi H3 => ts σ H3 fun st H4 =>
  ∃ (a : Addr) (xs : List V) (c : Int), x = .ref a ∧ st = some c ∧ 0 < c ∧ SqL K H4 a xs ∧ ∀ p, H4 p = none → Q (.ref p) (upd H4 p (.lst (pickV xs lo hi c)))
theorem pe_sliceS {e st : Expr} {lo hi : Option Expr} {te : TE} {tl th ts : TO} {p3 pos : Pos} (he : PE X e te) (hl : PO X lo tl) (hh : PO X hi th) (hs : PO X (some st) ts) : PE X (.Subscript e (.Slice lo hi (some st) p3) pos) (tSlS X.K te tl th ts) := by
  constructor
  intro pins s σ H Q I h
  refine Subscript_ (thn (he.run pins s σ H _ I h) fun v s1 ⟨x, H1, I1, r1, q1⟩ => ?_)
  refine wpAny_Slice (thn (hl.run pins s1 σ H1 _ I1 q1) fun vl s2 ⟨l, H2, I2, pl, q2⟩ => ?_)
  refine thn (hh.run pins s2 σ H2 _ I2 q2) fun vh s3 ⟨u, H3, I3, ph, q3⟩ => ?_
  refine thn (hs.run pins s3 σ H3 _ I3 q3) fun vs s4 ⟨o, H4, I4, pst, q4⟩ => ?_
  obtain ⟨a, xs, c, ex, eo, hc, hx, q⟩ := q4
  subst ex eo
  cases r1
  have J : Inv X pins σ H4 { s4 with heap := s4.heap.push { cls := .type "slice", data := .fields #[vl, vh, vs] } } := I4.kept (t' := s4.toks) fun b ob z => Heap.get?_push_of_some _ z
  obtain ⟨us, r, ht, hz⟩ := J.list hx
  obtain ⟨ws, e1, rw1⟩ := slicePick_V r l u c
  have hsz : ws.length ≤ us.length := by
    have z := slicePick_size_le us.toArray l u (some c)
    rw [e1, List.size_toArray, List.size_toArray] at z
    exact z
  have hrl := r.length
  show wpAny (model X.prog X.w) X.A (subscriptTail e (.Slice lo hi (some st) p3) (.ref a) (.ref s4.heap.objs.size)) (EP X pins σ Q) X.xe { s4 with heap := s4.heap.push { cls := .type "slice", data := .fields #[vl, vh, vs] } }
  refine tail_any (ops := [.ref a, .ref s4.heap.objs.size]) ht.isList.typeIs (PySem.slot_list_getitem.lookup) ?_ (by with_unfolding_all rfl)
  refine wpAny_getItem_list_slice ht.isList (Heap.IsSliceOf.new _ vl vh vs) pl ph pst (by intro z; cases z; exact absurd hc (by decide)) ?_ (by rw [List.size_toArray]; omega)
  rw [e1]
  exact ⟨.ref _, _, J.laid (t' := s4.toks) (o := .lst (pickV xs l u c)) (fun b ob z => Heap.get?_push_of_some _ z) (Nat.le_refl _) ⟨by rw [rw1.length]; omega, ws, 0, rw1, Heap.get?_push_size _ rfl⟩, rfl, q _ (J.hok.fresh (Nat.le_refl _))⟩
end
end Tc
namespace Tc
open PySem PySem.Spec PyProof.Rows L2 Evl
open Su193 (SocialChoice)

/-- the i-th statement of the program's top -/
def topS (i : Nat) : Stmt := PySem.Challenge.pw_truthfulchoice_s01_answers.main.body.getD i (.Pass ⟨0, 0, 0, 0⟩)
/-- a natural number as the proof sees it -/
abbrev nv (n : Nat) : V := .int (n : Int)
abbrev nvs (l : List Nat) : List V := l.map nv
abbrev rfs (l : List Addr) : List V := l.map V.ref

/-- what the top has written: classes, constants, built-in names left alone -/
structure Txt (K : PySem.W.Frag) (mg : Str → Option Value) where
  (aC aI aS aN aL aD : Addr)
  cC : Cls K aC
  cI : Cls K aI
  cS : Cls K aS
  nC_number : NoAttr K aC "number"
  nC_numbers : NoAttr K aC "numbers"
  nC_row : NoAttr K aC "row"
  nI_agent_count : NoAttr K aI "agent_count"
  nI_alternative_count : NoAttr K aI "alternative_count"
  nI_domains : NoAttr K aI "domains"
  nI_outcomes : NoAttr K aI "outcomes"
  nS_instance : NoAttr K aS "instance"
  len : mg "len" = none
  range : mg "range" = none
  zip : mg "zip" = none
  enumerate : mg "enumerate" = none
  sorted : mg "sorted" = none
  all : mg "all" = none
  any : mg "any" = none
  sum : mg "sum" = none
  max : mg "max" = none
  list : mg "list" = none
  set : mg "set" = none
  g_DOMAIN_LIMIT : ∃ u, mg "DOMAIN_LIMIT" = some u ∧ RelV (.int 6) u
  g_FIRST_THAT_NEEDS_READY : ∃ u, mg "FIRST_THAT_NEEDS_READY" = some u ∧ RelV (.int 3) u
  g_LAST_THAT_NEEDS_READY : ∃ u, mg "LAST_THAT_NEEDS_READY" = some u ∧ RelV (.int 16) u
  g_NO_INSTANCE : ∃ u, mg "NO_INSTANCE" = some u ∧ RelV (.int (-11)) u
  g_NOT_READY : ∃ u, mg "NOT_READY" = some u ∧ RelV (.int (-16)) u
  g_NO_AGENT : ∃ u, mg "NO_AGENT" = some u ∧ RelV (.int (-2)) u
  g_INVALID : ∃ u, mg "INVALID" = some u ∧ RelV (.int (-22)) u
  g_KNOWN_PREFERENCE : ∃ u, mg "KNOWN_PREFERENCE" = some u ∧ RelV (.int (-17)) u
  g_LIMIT_REACHED : ∃ u, mg "LIMIT_REACHED" = some u ∧ RelV (.int (-28)) u
  g_NO_MANIPULATION : ∃ u, mg "NO_MANIPULATION" = some u ∧ RelV (.int (-33)) u
  g_CREATE : ∃ u, mg "CREATE" = some u ∧ RelV (.int 0) u
  g_NUMBER_COUNTS : ∃ u, mg "NUMBER_COUNTS" = some u ∧ RelV (.ref aN) u
  sN : ∀ H : Hp, SqT K H aN (nvs [2, 1, 1, 1, 1, 0, 0, 0, 0, 0, 1, 0, 1, 0, 0, 0, 0, 1, 0])
  g_CALLS_WITH_LIST : ∃ u, mg "CALLS_WITH_LIST" = some u ∧ RelV (.ref aL) u
  sL : ∀ H : Hp, SqT K H aL (nvs [1, 3, 5, 8, 9, 10])
  g_OPERATIONS : ∃ u, mg "OPERATIONS" = some u ∧ RelV (.ref aD) u

/-! ## Rules for use within a comprehension: the written part by its own name -/
theorem hu65 {k : Nat} {A : Around} (r : Room k A) : A.units + 65 < cLine := by
  have := r.un
  omega
theorem ix_listK {X : Cx} {K : PySem.W.Frag} (h : X.K = K) : IxR X (rIxL K) := by
  subst h
  exact ix_list
theorem pg_tupK {X : Cx} {K : PySem.W.Frag} {es : List Expr} {k : Nat} {t : TGs} {n : Nat} {pos : Pos} (hK : X.K = K) (hc : X.calm = true) (hg : PGs X es t)
    (hn : (assignEach es X.env).length = n := by rfl) (hst : (assignEach es X.env).findIdx? (·.1) = none := by rfl) : PG X (.Tuple es k pos) (gTup K n t) := by
  subst hK
  exact pg_tup hc hg hn hst
theorem call_lenK {X : Cx} {K : PySem.W.Frag} (h : X.K = K) : CallR X (.builtin "len") (rLenS K) := by
  subst h
  exact call_len_seq
/-! ## Evaluating: more of Ev -/
/-- ends in a value that P tells of -/
def EvP (te : TE) (σ : L2.St) (H : Hp) (P : V → Hp → Prop) : Prop := ∀ H1, Ex H H1 → ∀ Q : VK, (∀ v H2, Ex H1 H2 → P v H2 → Q v H2) → te σ H1 Q
def SpP (sp : Sp) (vs : List V) (H : Hp) (P : V → Hp → Prop) : Prop := ∀ H1, Ex H H1 → ∀ Q : VK, (∀ v H2, Ex H1 H2 → P v H2 → Q v H2) → ∀ E : XK, sp vs H1 Q E
def Up (P : V → Hp → Prop) : Prop := ∀ v H H', Ex H H' → P v H → P v H'
section
variable {K : PySem.W.Frag} {σ : L2.St} {H H' : Hp} {ta tb te tx : TE} {t u : TT} {x y z v : V} {r : R2} {P : V → Hp → Prop} {D : Ends}
theorem EvP.mono (e : Ex H H') (h : EvP te σ H P) : EvP te σ H' P := fun H1 a Q q => h H1 (e.trans a) Q q
theorem ev_fld {a C dx : Addr} {fs : List (Str × V)} {f : Str} (h : Ev ta σ H (.ref a)) (ho : H a = some (.ins C dx fs)) (hc : Cls K C) (hn : NoAttr K C f) (hl : fs.lookup f = some v) : Ev (tFld K ta f) σ H v := fun H1 e _ q =>
  h H1 e _ fun H2 e2 => ⟨a, C, dx, fs, v, rfl, e2 a _ (e a _ ho), hc, hn, hl, q H2 e2⟩
theorem ev_meth {C a dx : Addr} {m : Str} {sp : Sp} {dvs vs : List V} {E : XK} {tas : TA} {fs : List (Str × V)} (h : Ev ta σ H (.ref a)) (ho : H a = some (.ins C dx fs)) (hm : fs.lookup m = none) (ht : EvA tas σ H vs)
    (hs : SpV sp (.ref a :: (vs ++ dvs)) H z) : Ev (tMeth C m sp dvs E ta tas) σ H z := fun H1 e Q q =>
  h H1 e _ fun H2 e2 => ⟨a, dx, fs, rfl, e2 a _ (e a _ ho), hm, ht H2 (e.trans e2) _ fun H3 e3 => hs H3 ((e.trans e2).trans e3) Q (fun H4 e4 => q H4 ((e2.trans e3).trans e4)) E⟩
theorem el_meth {C a dx : Addr} {m : Str} {sp : Sp} {dvs vs xs : List V} {E : XK} {tas : TA} {fs : List (Str × V)} (h : Ev ta σ H (.ref a)) (ho : H a = some (.ins C dx fs)) (hm : fs.lookup m = none) (ht : EvA tas σ H vs)
    (hs : SpL sp (.ref a :: (vs ++ dvs)) H xs) : EvL (tMeth C m sp dvs E ta tas) σ H xs := fun H1 e Q q =>
  h H1 e _ fun H2 e2 => ⟨a, dx, fs, rfl, e2 a _ (e a _ ho), hm, ht H2 (e.trans e2) _ fun H3 e3 => hs H3 ((e.trans e2).trans e3) Q (fun p H4 hp e4 h4 => q p H4 (fresh_back (e2.trans e3) hp) ((e2.trans e3).trans e4) h4) E⟩
theorem ep_meth {C a dx : Addr} {m : Str} {sp : Sp} {dvs vs : List V} {E : XK} {tas : TA} {fs : List (Str × V)} (h : Ev ta σ H (.ref a)) (ho : H a = some (.ins C dx fs)) (hm : fs.lookup m = none) (ht : EvA tas σ H vs)
    (hs : SpP sp (.ref a :: (vs ++ dvs)) H P) : EvP (tMeth C m sp dvs E ta tas) σ H P := fun H1 e Q q =>
  h H1 e _ fun H2 e2 => ⟨a, dx, fs, rfl, e2 a _ (e a _ ho), hm, ht H2 (e.trans e2) _ fun H3 e3 => hs H3 ((e.trans e2).trans e3) Q (fun p H4 e4 h4 => q p H4 ((e2.trans e3).trans e4) h4) E⟩
theorem ep_call {sp : Sp} {dvs vs : List V} {E : XK} {tas : TA} (h : EvA tas σ H vs) (hs : SpP sp (vs ++ dvs) H P) : EvP (tCall sp dvs E tas) σ H P := fun H1 e Q q =>
  h H1 e _ fun H2 e2 => hs H2 (e.trans e2) Q (fun p H3 e3 h3 => q p H3 (e2.trans e3) h3) E
/-- arguments, all told by one word -/
def EvAP (ta : TA) (σ : L2.St) (H : Hp) (P : List V → Hp → Prop) : Prop := ∀ H1, Ex H H1 → ∀ Q : List V → Hp → Prop, (∀ vs H2, Ex H1 H2 → P vs H2 → Q vs H2) → ta σ H1 Q
theorem eap_of {tas : TA} {vs : List V} (h : EvA tas σ H vs) : EvAP tas σ H (fun us _ => us = vs) := fun H1 e Q q => h H1 e Q fun H2 e2 => q vs H2 e2 rfl
/-- the first argument told by a word -/
theorem eap_cons {tr : TA} {vs : List V} (up : Up P) (h : EvP te σ H P) (hr : EvA tr σ H vs) : EvAP (tCons te tr) σ H (fun us H2 => ∃ v, us = v :: vs ∧ P v H2) := fun H1 e Q q =>
  h H1 e _ fun v H2 e2 hP => hr H2 (e.trans e2) _ fun H3 e3 => q _ H3 (e2.trans e3) ⟨v, rfl, up v H2 H3 e3 hP⟩
/-- the second argument told by a word -/
theorem eap_cons2 {tr : TA} {PA : List V → Hp → Prop} (h : Ev te σ H x) (hr : EvAP tr σ H PA) : EvAP (tCons te tr) σ H (fun us H2 => ∃ vs, us = x :: vs ∧ PA vs H2) := fun H1 e Q q =>
  h H1 e _ fun H2 e2 => hr H2 (e.trans e2) _ fun vs H3 e3 hP => q _ H3 (e2.trans e3) ⟨vs, rfl, hP⟩
theorem eap_L {tr : TA} {xs vs : List V} (h : EvL te σ H xs) (hr : EvA tr σ H vs) : EvAP (tCons te tr) σ H (fun us H2 => ∃ p, us = .ref p :: vs ∧ H2 p = some (.lst xs)) := fun H1 e Q q =>
  h H1 e _ fun p H2 _ e2 h2 => hr H2 (e.trans e2) _ fun H3 e3 => q _ H3 (e2.trans e3) ⟨p, rfl, e3 p _ h2⟩
theorem ev_callP {sp : Sp} {dvs : List V} {E : XK} {tas : TA} {PA : List V → Hp → Prop} (h : EvAP tas σ H PA) (hs : ∀ vs H1, Ex H H1 → PA vs H1 → SpV sp (vs ++ dvs) H1 z) : Ev (tCall sp dvs E tas) σ H z := fun H1 e Q q =>
  h H1 e _ fun vs H2 e2 hP => hs vs H2 (e.trans e2) hP H2 (Ex.refl H2) Q (fun H3 e3 => q H3 (e2.trans e3)) E
theorem ep_callP {sp : Sp} {dvs : List V} {E : XK} {tas : TA} {PA : List V → Hp → Prop} (h : EvAP tas σ H PA) (hs : ∀ vs H1, Ex H H1 → PA vs H1 → SpP sp (vs ++ dvs) H1 P) : EvP (tCall sp dvs E tas) σ H P := fun H1 e Q q =>
  h H1 e _ fun vs H2 e2 hP => hs vs H2 (e.trans e2) hP H2 (Ex.refl H2) Q (fun v H3 e3 h3 => q v H3 (e2.trans e3) h3) E
theorem ev_cbP {r : List V → Hp → VK → Prop} {tas : TA} {PA : List V → Hp → Prop} (h : EvAP tas σ H PA) (hr : ∀ vs H1, Ex H H1 → PA vs H1 → RC r vs H1 z) : Ev (tCB r tas) σ H z := fun H1 e Q q =>
  h H1 e _ fun vs H2 e2 hP => hr vs H2 (e.trans e2) hP H2 (Ex.refl H2) Q fun H3 e3 => q H3 (e2.trans e3)
theorem el_cbP {r : List V → Hp → VK → Prop} {tas : TA} {PA : List V → Hp → Prop} {xs : List V} (h : EvAP tas σ H PA) (hr : ∀ vs H1, Ex H H1 → PA vs H1 → RCL r vs H1 xs) : EvL (tCB r tas) σ H xs := fun H1 e Q q =>
  h H1 e _ fun vs H2 e2 hP => hr vs H2 (e.trans e2) hP H2 (Ex.refl H2) Q fun p H3 hp e3 h3 => q p H3 (fresh_back e2 hp) (e2.trans e3) h3
theorem ev_P (h : EvP te σ H fun w _ => w = v) : Ev te σ H v := fun H1 e Q q => h H1 e Q fun w H2 e2 hw => by
  subst hw
  exact q H2 e2
theorem ep_V (h : Ev te σ H v) : EvP te σ H fun w _ => w = v := fun H1 e Q q => h H1 e Q fun H2 e2 => q v H2 e2 rfl
theorem ep_L {xs : List V} (h : EvL te σ H xs) : EvP te σ H fun w H2 => ∃ p, w = .ref p ∧ H2 p = some (.lst xs) := fun H1 e Q q => h H1 e Q fun p H2 _ e2 h2 => q _ H2 e2 ⟨p, rfl, h2⟩
theorem EvP.imp {P' : V → Hp → Prop} (h : EvP te σ H P) (k : ∀ v H2, Ex H H2 → P v H2 → P' v H2) : EvP te σ H P' := fun H1 e Q q => h H1 e Q fun v H2 e2 hP => q v H2 e2 (k v H2 (e.trans e2) hP)
theorem s_asgP {i : Nat} (h : EvP te σ H P) (k : ∀ v H1, Ex H H1 → P v H1 → D.nx (σ.set i (some v)) H1) : tAsg te (gName i) D σ H := h H (Ex.refl H) _ fun v H1 e h1 => k v H1 e h1
theorem q_asgP {tz : TS} {i : Nat} (h : EvP te σ H P) (k : ∀ v H1, Ex H H1 → P v H1 → tz D (σ.set i (some v)) H1) : tSeq (tAsg te (gName i)) tz D σ H := s_asgP (D := { D with nx := tz D }) h k
theorem s_retP (h : EvP te σ H P) (k : ∀ v H1, Ex H H1 → P v H1 → D.rt v H1) : tRet te D σ H := h H (Ex.refl H) _ k
/-- an item of a list, by its place -/
theorem ev_ix {p : Addr} {xs : List V} {i : Nat} (ha : Ev ta σ H (.ref p)) (hb : Ev tb σ H (nv i)) (hs : SqL K H p xs) (hx : xs[i]? = some v) : Ev (tOp (rIxL K) ta tb) σ H v := ev_op ha hb (rv_ixL hs (atI_nat hx))
theorem ev_ixT {p : Addr} {xs : List V} {i : Nat} (ha : Ev ta σ H (.ref p)) (hb : Ev tb σ H (nv i)) (hs : SqT K H p xs) (hx : xs[i]? = some v) : Ev (tOp (rIxT K) ta tb) σ H v := ev_op ha hb (rv_ixT hs (atI_nat hx))
theorem ev_lenL {p : Addr} {xs : List V} (ha : Ev ta σ H (.ref p)) (h : H p = some (.lst xs)) : Ev (tCB (rLenS K) (tCons ta tNil)) σ H (nv xs.length) := ev_len ha (sq_of h)
/-- a + b of lists, a new list -/
theorem el_cat {p q : Addr} {xs ys : List V} (ha : Ev ta σ H (.ref p)) (hb : Ev tb σ H (.ref q)) (hp : H p = some (.lst xs)) (hq : H q = some (.lst ys)) (hz : xs.length + ys.length ≤ 100000) : EvL (tOp rCat ta tb) σ H (xs ++ ys) := fun H1 e Q k =>
  ha H1 e _ fun H2 e2 => hb H2 (e.trans e2) _ fun H3 e3 => ⟨p, q, xs, ys, rfl, rfl, ((e.trans e2).trans e3) p _ hp, ((e.trans e2).trans e3) q _ hq, sz_of hz, fun z hz2 => k z _ (fresh_back (e2.trans e3) hz2) ((e2.trans e3).trans (Ex.new hz2)) upd_same⟩
theorem el_catR {p : Addr} {xs ys : List V} (ha : Ev ta σ H (.ref p)) (hb : EvL tb σ H ys) (hp : H p = some (.lst xs)) (hz : xs.length + ys.length ≤ 100000) : EvL (tOp rCat ta tb) σ H (xs ++ ys) := fun H1 e Q k =>
  ha H1 e _ fun H2 e2 => hb H2 (e.trans e2) _ fun q H3 _ e3 hq => ⟨p, q, xs, ys, rfl, rfl, ((e.trans e2).trans e3) p _ hp, hq, sz_of hz, fun z hz2 => k z _ (fresh_back (e2.trans e3) hz2) ((e2.trans e3).trans (Ex.new hz2)) upd_same⟩
theorem el_catL {q : Addr} {xs ys : List V} (ha : EvL ta σ H xs) (hb : Ev tb σ H (.ref q)) (hq : H q = some (.lst ys)) (hz : xs.length + ys.length ≤ 100000) : EvL (tOp rCat ta tb) σ H (xs ++ ys) := fun H1 e Q k =>
  ha H1 e _ fun p H2 _ e2 hp => hb H2 (e.trans e2) _ fun H3 e3 => ⟨p, q, xs, ys, rfl, rfl, e3 p _ hp, ((e.trans e2).trans e3) q _ hq, sz_of hz, fun z hz2 => k z _ (fresh_back (e2.trans e3) hz2) ((e2.trans e3).trans (Ex.new hz2)) upd_same⟩
theorem el_catLL {xs ys : List V} (ha : EvL ta σ H xs) (hb : EvL tb σ H ys) (hz : xs.length + ys.length ≤ 100000) : EvL (tOp rCat ta tb) σ H (xs ++ ys) := fun H1 e Q k =>
  ha H1 e _ fun p H2 _ e2 hp => hb H2 (e.trans e2) _ fun q H3 _ e3 hq => ⟨p, q, xs, ys, rfl, rfl, e3 p _ hp, hq, sz_of hz, fun z hz2 => k z _ (fresh_back (e2.trans e3) hz2) ((e2.trans e3).trans (Ex.new hz2)) upd_same⟩
theorem flat_rep {α : Type} (v : α) : ∀ n : Nat, (List.replicate n [v]).flatten = List.replicate n v
  | 0 => rfl
  | n + 1 => by rw [List.replicate_succ, List.flatten_cons, flat_rep v n, List.replicate_succ] <;> rfl
/-- [v] * n -/
theorem el_rep {n : Nat} (ha : EvL ta σ H [v]) (hb : Ev tb σ H (nv n)) (hz : n ≤ 100000) : EvL (tOp rRep ta tb) σ H (List.replicate n v) := fun H1 e Q k =>
  ha H1 e _ fun p H2 _ e2 hp => hb H2 (e.trans e2) _ fun H3 e3 => ⟨p, (n : Int), [v], rfl, rfl, e3 p _ hp, by omega, by omega, by
      rw [Int.toNat_natCast, List.length_singleton, Nat.one_mul]
      exact sz_of hz, fun z hz2 => by
      have e0 : (List.replicate (n : Int).toNat [v]).flatten = List.replicate n v := by rw [Int.toNat_natCast, flat_rep]
      rw [e0]
      exact k z _ (fresh_back (e2.trans e3) hz2) ((e2.trans e3).trans (Ex.new hz2)) upd_same⟩
theorem flat_nvs (l : List Nat) : (nvs l).all flatV = true := by
  rw [List.all_map]
  exact List.all_eq_true.mpr fun _ _ => rfl

theorem nv_eq {a b : Nat} : eqV (nv a) (nv b) = decide (a = b) := by
  show decide ((a : Int) = (b : Int)) = decide (a = b)
  by_cases h : a = b
  · rw [decide_eq_true h, decide_eq_true (by omega)]
  · rw [decide_eq_false h, decide_eq_false (by omega)]
/-- list.index of a number that is there -/
theorem ev_index {p : Addr} {l : List Nat} {a : Nat} (ha : Ev ta σ H (.ref p)) (hb : Ev tb σ H (nv a)) (hp : H p = some (.lst (nvs l))) (hm : a ∈ l) :
    Ev (tBM K "list" (rIndex K) ta (tCons tb tNil)) σ H (nv (l.idxOf a)) := fun H1 e Q k => ha H1 e _ fun H2 e2 =>
  ⟨Or.inl ⟨rfl, _, sq_of ((e.trans e2) p _ hp)⟩, hb H2 (e.trans e2) _ fun H3 e3 => by
    have hlt : l.idxOf a < l.length := List.idxOf_lt_length_of_mem hm
    refine ⟨p, nvs l, nv a, l.idxOf a, nv a, rfl, rfl, sq_of (((e.trans e2).trans e3) p _ hp), rfl, flat_nvs l, ?_, ?_, ?_, k H3 (e2.trans e3)⟩
    · rw [List.getElem?_map, List.getElem?_eq_getElem hlt, List.getElem_idxOf]
      rfl
    · rw [nv_eq]
      exact decide_eq_true rfl
    · intro m z hm2 hz
      rw [List.getElem?_map, List.getElem?_eq_getElem (by omega)] at hz
      cases hz
      show eqV (nv _) (nv a) = false
      rw [nv_eq]
      refine decide_eq_false fun h => ?_
      have h2 := List.not_of_lt_findIdx (p := (· == a)) (xs := l) (i := m) hm2
      rw [h] at h2
      simp at h2⟩
/-! ## Comprehensions, by any walk -/
def LcI (H : Hp) (Dl : Addr) (acc : List V) (H' : Hp) : Prop := H Dl = none ∧ Ex H H' ∧ H' Dl = some (.lst acc)
/-- values known ahead, over two lists at once: a new tuple each turn -/
theorem el_lcZ {ta : TA} {j1 j2 : Nat} {vs : List Nat} {a b : Addr} {xs ys : List V} {te : TE} (f : Nat → Bool) (g : Nat → V) (h : EvA ta σ H [.ref a, .ref b]) (hx : SqL K H a xs) (hy : SqL K H b ys) (hl : xs.length = ys.length) (hz : xs.length ≤ 40000)
    (hw : ∀ x y, wipe (((wipe σ vs).set j1 (some x)).set j2 (some y)) vs = wipe σ vs)
    (ht : ∀ (i : Nat) (x y : V) H1, Ex H H1 → xs[i]? = some x → ys[i]? = some y → EvT t (((wipe σ vs).set j1 (some x)).set j2 (some y)) H1 (f i))
    (he : ∀ (i : Nat) (x y : V) H1, Ex H H1 → xs[i]? = some x → ys[i]? = some y → f i = true → Ev te (((wipe σ vs).set j1 (some x)).set j2 (some y)) H1 (g i)) :
    EvL (tLc (iZip K ta) (gTup K 2 (gCons (gName j1) (gCons (gName j2) gNil))) t te vs) σ H (given xs.length f g) := fun H0 e Q q => h H0 e _ fun H1 e1 => ⟨a, b, xs, ys, rfl, ex_l (e.trans e1) hx, ex_l (e.trans e1) hy, fun Dl hD =>
  lc_it (walk_zip (K := K) (a := a) (b := b) (xs := xs) (ys := ys) (n := xs.length) (by omega)) (Cw H1 f g Dl) ⟨hD, Ex.new hD, upd_same⟩ (fun i H' _ p => ⟨ex_l ((e.trans e1).trans p.2.1) hx, ex_l ((e.trans e1).trans p.2.1) hy⟩)
    (fun i v H2 H3 hi p y => by
      obtain ⟨T, x, z, rfl, hT, rfl, h1, h2⟩ := y
      refine ⟨T, [x, z], rfl, st_of upd_same, rfl, x, [z], rfl, z, [], rfl, rfl, hw x z, ?_⟩
      have p' : Cw H1 f g Dl i (upd H2 T (.tup [x, z])) := ⟨p.1, p.2.1.trans (Ex.new hT), (Ex.new hT) Dl _ p.2.2⟩
      exact cw_turn p' (by omega) (ht i x z H1 (e.trans e1) h1 h2) (fun hf => he i x z H1 (e.trans e1) h1 h2 hf)) (fun H' p => q Dl H' (fresh_back e1 p.1) (e1.trans p.2.1) p.2.2)⟩
/-- .. over enumerate -/
theorem el_lcE {ta : TA} {j1 j2 : Nat} {vs : List Nat} {a : Addr} {xs : List V} {te : TE} (f : Nat → Bool) (g : Nat → V) (h : EvA ta σ H [.ref a]) (hx : SqL K H a xs) (hz : xs.length ≤ 40000)
    (hw : ∀ x y, wipe (((wipe σ vs).set j1 (some x)).set j2 (some y)) vs = wipe σ vs)
    (ht : ∀ (i : Nat) (x : V) H1, Ex H H1 → xs[i]? = some x → EvT t (((wipe σ vs).set j1 (some (nv i))).set j2 (some x)) H1 (f i))
    (he : ∀ (i : Nat) (x : V) H1, Ex H H1 → xs[i]? = some x → f i = true → Ev te (((wipe σ vs).set j1 (some (nv i))).set j2 (some x)) H1 (g i)) :
    EvL (tLc (iEnum K ta) (gTup K 2 (gCons (gName j1) (gCons (gName j2) gNil))) t te vs) σ H (given xs.length f g) := fun H0 e Q q => h H0 e _ fun H1 e1 => ⟨a, xs, rfl, ex_l (e.trans e1) hx, fun Dl hD =>
  lc_it (walk_enum (K := K) (a := a) (xs := xs)) (Cw H1 f g Dl) ⟨hD, Ex.new hD, upd_same⟩ (fun i H' _ p => ex_l ((e.trans e1).trans p.2.1) hx)
    (fun i v H2 H3 hi p y => by
      obtain ⟨T, x, z, rfl, hT, rfl, h1, h2⟩ := y
      cases h1
      refine ⟨T, [nv i, z], rfl, st_of upd_same, rfl, nv i, [z], rfl, z, [], rfl, rfl, hw (nv i) z, ?_⟩
      have p' : Cw H1 f g Dl i (upd H2 T (.tup [nv i, z])) := ⟨p.1, p.2.1.trans (Ex.new hT), (Ex.new hT) Dl _ p.2.2⟩
      exact cw_turn p' (by omega) (ht i z H1 (e.trans e1) h2) (fun hf => he i z H1 (e.trans e1) h2 hf)) (fun H' p => q Dl H' (fresh_back e1 p.1) (e1.trans p.2.1) p.2.2)⟩
/-- lists of values -/
def LLV (H : Hp) (p : Addr) (xss : List (List V)) : Prop := ∃ qs : List Addr, H p = some (.lst (rfs qs)) ∧ Paired (fun q xs => H q = some (.lst xs)) qs xss
/-- elements that are new lists, no filter -/
def LcL (H : Hp) (g : Nat → List V) (Dl : Addr) (i : Nat) (H' : Hp) : Prop := H Dl = none ∧ Ex H H' ∧ ∃ qs : List Addr, H' Dl = some (.lst (rfs qs)) ∧ qs.length = i ∧ ∀ j q, qs[j]? = some q → (q ≠ Dl ∧ H q = none) ∧ H' q = some (.lst (g j))
theorem lcl_turn {H H' : Hp} {g : Nat → List V} {Dl : Addr} {i : Nat} {σ2 : L2.St} (p : LcL H g Dl i H') (hi : i < 50000) (he : EvL te σ2 H (g i)) :
    tYes σ2 H' fun b H3 => if b = true then te σ2 H3 fun y H4 => ∃ acc, H4 Dl = some (.lst acc) ∧ acc.length < sizeLine ∧ LcL H g Dl (i + 1) (upd H4 Dl (.lst (acc ++ [y]))) else LcL H g Dl (i + 1) H3 := by
  obtain ⟨p1, p2, qs, p3, p4, p5⟩ := p
  show te σ2 H' fun y H4 => ∃ acc, H4 Dl = some (.lst acc) ∧ acc.length < sizeLine ∧ LcL H g Dl (i + 1) (upd H4 Dl (.lst (acc ++ [y])))
  refine he H' p2 _ fun y H4 hy e4 hP => ⟨rfs qs, e4 Dl _ p3, sz_lt (by rw [List.length_map]; omega), p1, Ex.mut (p2.trans e4) p1, qs ++ [y], ?_, by rw [List.length_append, p4] <;> rfl, fun j q hj => ?_⟩
  · rw [show rfs (qs ++ [y]) = rfs qs ++ [V.ref y] by simp [rfs]]
    exact upd_same
  rcases Nat.lt_or_ge j qs.length with hlt | hge
  · rw [List.getElem?_append_left hlt] at hj
    obtain ⟨h1, h2⟩ := p5 j q hj
    exact ⟨h1, by rw [upd_ne h1.1]; exact e4 q _ h2⟩
  · have hj2 : j = qs.length := by
      have := (List.getElem?_eq_some_iff.mp hj).1
      rw [List.length_append] at this
      have : j < qs.length + 1 := this
      omega
    subst hj2
    rw [List.getElem?_append_right (Nat.le_refl _), Nat.sub_self] at hj
    cases hj
    have hne : y ≠ Dl := fun z => by
      rw [z, p3] at hy
      cases hy
    rw [p4]
    exact ⟨⟨hne, fresh_back p2 hy⟩, by rw [upd_ne hne]; exact hP⟩
theorem paired_of {α β : Type} {R : α → β → Prop} : ∀ {as : List α} {bs : List β}, as.length = bs.length → (∀ (i : Nat) (a : α) (b : β), as[i]? = some a → bs[i]? = some b → R a b) → Paired R as bs
  | [], [], _, _ => .nil
  | a :: as, b :: bs, h, k => .cons (k 0 a b rfl rfl) (paired_of (Nat.succ.inj h) fun i a b ha hb => k (i + 1) a b ha hb)
  | [], _ :: _, h, _ => by cases h
  | _ :: _, [], h, _ => by cases h
theorem LcL.done {H H' : Hp} {g : Nat → List V} {Dl : Addr} {n : Nat} (p : LcL H g Dl n H') : LLV H' Dl ((List.range n).map g) := by
  obtain ⟨p1, p2, qs, p3, p4, p5⟩ := p
  refine ⟨qs, p3, paired_of (by rw [List.length_map, List.length_range, p4]) fun i a b ha hb => ?_⟩
  rw [List.getElem?_map] at hb
  cases hr : (List.range n)[i]? with
  | none =>
    rw [hr] at hb
    cases hb
  | some k =>
    rw [hr] at hb
    cases hb
    have := List.getElem?_eq_some_iff.mp hr
    obtain ⟨h1, h2⟩ := this
    rw [List.getElem_range] at h2
    subst h2
    exact (p5 i a ha).2
/-- .. all new -/
def LLVF (H0 H : Hp) (p : Addr) (xss : List (List V)) : Prop := ∃ qs : List Addr, H p = some (.lst (rfs qs)) ∧ Paired (fun q xs => H q = some (.lst xs)) qs xss ∧ ∀ q ∈ qs, H0 q = none
theorem LcL.doneF {H H' : Hp} {g : Nat → List V} {Dl : Addr} {n : Nat} (p : LcL H g Dl n H') : LLVF H H' Dl ((List.range n).map g) := by
  obtain ⟨qs, h1, h2⟩ := p.done
  obtain ⟨_, _, qs', p3, _, p5⟩ := p
  rw [h1] at p3
  have e : qs = qs' := List.map_inj_right (fun a b h => V.ref.inj h) |>.mp (HO.lst.inj (Option.some.inj p3))
  subst e
  refine ⟨qs, h1, h2, fun q hq => ?_⟩
  obtain ⟨i, hi⟩ := List.getElem?_of_mem hq
  exact (p5 i q hi).1.2
/-- [new list for x in xs] -/
theorem ep_lcL {a : Addr} {xs : List V} {tl : TE} {j : Nat} {vs : List Nat} (g : Nat → List V) (h : Ev tl σ H (.ref a)) (hx : SqL K H a xs) (hz : xs.length ≤ 40000) (hw : ∀ x, wipe ((wipe σ vs).set j (some x)) vs = wipe σ vs)
    (he : ∀ (i : Nat) (x : V) H1, Ex H H1 → xs[i]? = some x → EvL te ((wipe σ vs).set j (some x)) H1 (g i)) :
    EvP (tLc (iList K tl) (gName j) tYes te vs) σ H (fun v H2 => ∃ p, v = .ref p ∧ LLV H2 p ((List.range xs.length).map g)) := fun H0 e Q q => h H0 e _ fun H1 e1 => ⟨a, rfl, ⟨xs, ex_l (e.trans e1) hx⟩, fun Dl hD =>
  lc_list (xs := xs) (LcL H1 g Dl) ⟨hD, Ex.new hD, [], upd_same, rfl, fun j q hj => by cases hj⟩ (fun i H' _ p => ex_l ((e.trans e1).trans p.2.1) hx)
    (fun i x H' hi p => ⟨hw x, lcl_turn p (by have := (List.getElem?_eq_some_iff.mp hi).1; omega) (he i x H1 (e.trans e1) hi)⟩) (fun H' p => q _ H' (e1.trans p.2.1) ⟨Dl, rfl, p.done⟩)⟩
/-- [new list for i in range(n)] -/
theorem ep_lcR {ta : TA} {j : Nat} {vs : List Nat} {n : Nat} (g : Nat → List V) (h : EvA ta σ H [nv n]) (hz : n ≤ 40000) (hw : ∀ x, wipe ((wipe σ vs).set j (some x)) vs = wipe σ vs)
    (he : ∀ (i : Nat) H1, Ex H H1 → i < n → EvL te ((wipe σ vs).set j (some (nv i))) H1 (g i)) :
    EvP (tLc (iRng1 ta) (gName j) tYes te vs) σ H (fun v H2 => ∃ p, v = .ref p ∧ LLV H2 p ((List.range n).map g)) := fun H0 e Q q => h H0 e _ fun H1 e1 => ⟨(n : Int), rfl, by omega, by omega, fun Dl hD =>
  lc_range (lo := 0) (n := (n : Int).toNat) (LcL H1 g Dl) ⟨hD, Ex.new hD, [], upd_same, rfl, fun j q hj => by cases hj⟩
    (fun i H' hi p => by
      have e0 : V.int ((0 : Int) + (i : Int)) = nv i := by rw [Int.zero_add]
      rw [e0]
      exact ⟨hw (nv i), lcl_turn p (by omega) (he i H1 (e.trans e1) (by omega))⟩) (fun H' p => q _ H' (e1.trans p.2.1) ⟨Dl, rfl, p.done⟩)⟩
theorem LLV.mono {p : Addr} {xss : List (List V)} (e : Ex H H') (h : LLV H p xss) : LLV H' p xss := by
  obtain ⟨qs, h1, h2⟩ := h
  refine ⟨qs, e p _ h1, ?_⟩
  clear h1
  induction h2 with
  | nil => exact .nil
  | cons a b ih => exact .cons (e _ _ a) ih
theorem pmono {α β : Type} {R S : α → β → Prop} (k : ∀ a b, R a b → S a b) : ∀ {as : List α} {bs : List β}, Paired R as bs → Paired S as bs
  | _, _, .nil => .nil
  | _, _, .cons h t => .cons (k _ _ h) (pmono k t)
theorem pget {α β : Type} {R : α → β → Prop} {as : List α} {bs : List β} (h : Paired R as bs) {i : Nat} {b : β} (hb : bs[i]? = some b) : ∃ a, as[i]? = some a ∧ R a b := by
  induction h generalizing i with
  | nil => simp at hb
  | cons r t ih =>
    cases i with
    | zero =>
      cases hb
      exact ⟨_, rfl, r⟩
    | succ i => exact ih hb
theorem pget' {α β : Type} {R : α → β → Prop} {as : List α} {bs : List β} (h : Paired R as bs) {i : Nat} {a : α} (ha : as[i]? = some a) : ∃ b, bs[i]? = some b ∧ R a b := by
  induction h generalizing i with
  | nil => simp at ha
  | cons r t ih =>
    cases i with
    | zero =>
      cases ha
      exact ⟨_, rfl, r⟩
    | succ i => exact ih ha
end
end Tc
namespace Tc
open PySem PySem.Spec PyProof.Rows L2 Evl
open Su193 (SocialChoice)
/-! ## A list of lists that grows -/
def Bld (H : Hp) (l : Addr) (xss : List (List V)) (H' : Hp) : Prop := H l = none ∧ Ex H H' ∧ ∃ qs : List Addr, H' l = some (.lst (rfs qs)) ∧ Paired (fun q xs => (q ≠ l ∧ H q = none) ∧ H' q = some (.lst xs)) qs xss
def RetP (P : V → Hp → Prop) (H : Hp) (Q : VK) : Prop := ∀ v H2, Ex H H2 → P v H2 → Q v H2
theorem RetP.go {P : V → Hp → Prop} {H H' : Hp} {Q : VK} (k : RetP P H Q) (e : Ex H H') {v : V} {H2 : Hp} (e2 : Ex H' H2) (h : P v H2) : Q v H2 := k v H2 (e.trans e2) h
theorem papp {α β : Type} {R : α → β → Prop} : ∀ {as cs : List α} {bs ds : List β}, Paired R as bs → Paired R cs ds → Paired R (as ++ cs) (bs ++ ds)
  | _, _, _, _, .nil, k => k
  | _, _, _, _, .cons h t, k => .cons h (papp t k)
theorem plen {α β : Type} {R : α → β → Prop} {as : List α} {bs : List β} (h : Paired R as bs) : as.length = bs.length := by
  induction h with
  | nil => rfl
  | cons _ _ ih => rw [List.length_cons, List.length_cons, ih]
section
variable {K : PySem.W.Frag} {σ : L2.St} {H H' : Hp} {ta tb te tx : TE} {t u : TT} {x y z v : V} {r : R2} {P : V → Hp → Prop} {D : Ends}
theorem Bld.start {l : Addr} (hl : H l = none) (e : Ex H H') (h : H' l = some (.lst [])) : Bld H l [] H' := ⟨hl, e, [], h, .nil⟩
theorem Bld.llv {l : Addr} {xss : List (List V)} (p : Bld H l xss H') : LLV H' l xss := by
  obtain ⟨_, _, qs, h1, h2⟩ := p
  exact ⟨qs, h1, pmono (fun a b h => h.2) h2⟩
theorem Bld.llvf {l : Addr} {xss : List (List V)} (p : Bld H l xss H') : LLVF H H' l xss := by
  obtain ⟨_, _, qs, h1, h2⟩ := p
  refine ⟨qs, h1, pmono (fun a b h => h.2) h2, fun q hq => ?_⟩
  obtain ⟨i, hi⟩ := List.getElem?_of_mem hq
  obtain ⟨_, _, h3⟩ := pget' h2 hi
  exact h3.1.2
theorem LLVF.back {H0 H1 H2 : Hp} {p : Addr} {xss : List (List V)} (e : Ex H0 H1) (h : LLVF H1 H2 p xss) : LLVF H0 H2 p xss := by
  obtain ⟨qs, h1, h2, h3⟩ := h
  exact ⟨qs, h1, h2, fun q hq => fresh_back e (h3 q hq)⟩
theorem LLVF.mono {H0 H1 H2 : Hp} {p : Addr} {xss : List (List V)} (e : Ex H1 H2) (h : LLVF H0 H1 p xss) : LLVF H0 H2 p xss := by
  obtain ⟨qs, h1, h2, h3⟩ := h
  exact ⟨qs, e p _ h1, pmono (fun a b h => e a _ h) h2, h3⟩
theorem LLVF.llv {H0 H1 : Hp} {p : Addr} {xss : List (List V)} (h : LLVF H0 H1 p xss) : LLV H1 p xss := by
  obtain ⟨qs, h1, h2, h3⟩ := h
  exact ⟨qs, h1, h2⟩
theorem Bld.ex {l : Addr} {xss : List (List V)} (p : Bld H l xss H') : Ex H H' := p.2.1
theorem Bld.mono {l : Addr} {xss : List (List V)} {H2 : Hp} (p : Bld H l xss H') (e : Ex H' H2) : Bld H l xss H2 := by
  obtain ⟨h0, e0, qs, h1, h2⟩ := p
  exact ⟨h0, e0.trans e, qs, e l _ h1, pmono (fun a b h => ⟨h.1, e _ _ h.2⟩) h2⟩
/-- l.append(a new list) -/
theorem s_bld {l : Addr} {xss : List (List V)} {ys : List V} (p : Bld H l xss H') (ha : Ev ta σ H' (.ref l)) (h : EvL te σ H' ys) (hz : xss.length < 100000) (k : ∀ H1, Bld H l (xss ++ [ys]) H1 → D.nx σ H1) :
    tDrop (tBM K "list" rAppend ta (tCons te tNil)) D σ H' := by
  obtain ⟨h0, e0, qs, h1, h2⟩ := p
  have hlen := plen h2
  refine s_appL h1 ha h (by rw [List.length_map]; omega) fun q H1 hq e1 hq1 => k _ ⟨h0, Ex.mut (e0.trans e1) h0, qs ++ [q], ?_, ?_⟩
  · rw [show rfs (qs ++ [q]) = rfs qs ++ [V.ref q] by simp [rfs]]
    exact upd_same
  · have hne : q ≠ l := fun z => by
      rw [z, h1] at hq
      cases hq
    refine papp (pmono (fun a b hh => ⟨hh.1, by rw [upd_ne hh.1.1]; exact e1 _ _ hh.2⟩) h2) (.cons ⟨⟨hne, fresh_back e0 hq⟩, ?_⟩ .nil)
    rw [upd_ne hne]
    exact hq1
theorem q_bld {tz : TS} {l : Addr} {xss : List (List V)} {ys : List V} (p : Bld H l xss H') (ha : Ev ta σ H' (.ref l)) (h : EvL te σ H' ys) (hz : xss.length < 100000) (k : ∀ H1, Bld H l (xss ++ [ys]) H1 → tz D σ H1) :
    tSeq (tDrop (tBM K "list" rAppend ta (tCons te tNil))) tz D σ H' := s_bld (D := { D with nx := tz D }) p ha h hz k
/-! ## Sorted, greatest, bits -/
theorem take_more {α : Type} {l : List α} {i : Nat} {x : α} (h : l[i]? = some x) : l.take (i + 1) = l.take i ++ [x] := by
  rw [List.take_add_one, h] <;> rfl
theorem perm_eq {l : List Nat} {ns : List Int} (hp : ns.Perm (l.map fun n : Nat => (n : Int))) (hs : ns.Pairwise (· ≤ ·)) : ∃ ms : List Nat, ns = ms.map (fun n : Nat => (n : Int)) ∧ ms.Perm l ∧ ms.Pairwise (· ≤ ·) := by
  refine ⟨ns.map Int.toNat, ?_, ?_, ?_⟩
  · rw [List.map_map]
    have : ∀ z ∈ ns, ((fun n : Nat => (n : Int)) ∘ Int.toNat) z = z := fun z hz => by
      have hm := hp.mem_iff.mp hz
      obtain ⟨n, _, rfl⟩ := List.mem_map.mp hm
      simp
    exact (List.map_id ns).symm.trans (List.map_congr_left fun z hz => (this z hz).symm)
  · have h := hp.map Int.toNat
    rw [List.map_map] at h
    have e : (Int.toNat ∘ fun n : Nat => (n : Int)) = id := by
      funext n
      simp
    rw [e, List.map_id] at h
    exact h
  · exact List.pairwise_map.mpr (hs.imp fun h => by omega)
theorem sort_perm : ∀ l : List Nat, (Su193.sort l).Perm l
  | [] => List.Perm.refl _
  | x :: l => by
    have ins : ∀ (x : Nat) (l : List Nat), (Su193.insertSorted x l).Perm (x :: l) := by
      intro x l
      induction l with
      | nil => exact List.Perm.refl _
      | cons y l ih =>
        unfold Su193.insertSorted
        split
        · exact List.Perm.refl _
        · exact (ih.cons y).trans (List.Perm.swap x y l)
    show (Su193.insertSorted x (Su193.sort l)).Perm (x :: l)
    exact (ins x _).trans ((sort_perm l).cons x)
theorem ins_sorted (x : Nat) : ∀ l : List Nat, l.Pairwise (· ≤ ·) → (Su193.insertSorted x l).Pairwise (· ≤ ·)
  | [], _ => by
    unfold Su193.insertSorted
    exact List.pairwise_singleton _ _
  | y :: l, h => by
    have mem : ∀ (x : Nat) (l : List Nat) (z : Nat), z ∈ Su193.insertSorted x l → z = x ∨ z ∈ l := by
      intro x l z
      induction l with
      | nil =>
        intro h
        exact .inl (List.mem_singleton.mp h)
      | cons y l ih =>
        unfold Su193.insertSorted
        split
        · intro h
          rcases List.mem_cons.mp h with h | h
          · exact .inl h
          · exact .inr h
        · intro h
          rcases List.mem_cons.mp h with h | h
          · exact .inr (h ▸ List.mem_cons_self ..)
          · rcases ih h with h | h
            · exact .inl h
            · exact .inr (List.mem_cons_of_mem _ h)
    rw [List.pairwise_cons] at h
    unfold Su193.insertSorted
    split
    · rename_i hx
      refine List.pairwise_cons.mpr ⟨fun z hz => ?_, List.pairwise_cons.mpr h⟩
      rcases List.mem_cons.mp hz with e | e
      · omega
      · have := h.1 z e
        omega
    · rename_i hx
      refine List.pairwise_cons.mpr ⟨fun z hz => ?_, ins_sorted x l h.2⟩
      rcases mem x l z hz with e | e
      · omega
      · exact h.1 z e
theorem sort_sorted : ∀ l : List Nat, (Su193.sort l).Pairwise (· ≤ ·)
  | [] => List.Pairwise.nil
  | x :: l => ins_sorted x _ (sort_sorted l)
theorem sorted_is {l ms : List Nat} (hp : ms.Perm l) (hs : ms.Pairwise (· ≤ ·)) : ms = Su193.sort l :=
  (hp.trans (sort_perm l).symm).eq_of_pairwise (le := (· ≤ ·)) (fun a b _ _ h1 h2 => by omega) hs (sort_sorted l)
theorem nvs_int (l : List Nat) : nvs l = (l.map fun n : Nat => (n : Int)).map V.int := by
  rw [List.map_map]
  rfl
/-- sorted(l), a new list -/
theorem el_sorted {l : List Nat} (h : EvAP (tCons ta tNil) σ H fun vs H2 => ∃ p, vs = [.ref p] ∧ H2 p = some (.lst (nvs l))) (hz : l.length < 64) : EvL (tCB (rSorted K) (tCons ta tNil)) σ H (nvs (Su193.sort l)) := fun H1 e Q q =>
  h H1 e _ fun vs H2 e2 hP => by
    obtain ⟨p, rfl, hp⟩ := hP
    refine ⟨p, l.map (fun n : Nat => (n : Int)), rfl, sq_of (by rw [← nvs_int]; exact hp), by rw [List.length_map]; exact hz, fun ns' p' hp' hs' hn => ?_⟩
    obtain ⟨ms, rfl, h1, h2⟩ := perm_eq hp' hs'
    rw [← nvs_int, sorted_is h1 h2]
    exact q p' _ (fresh_back e2 hn) (e2.trans (Ex.new hn)) upd_same
/-- the greatest -/
def mx (l : List Nat) : Nat := l.foldl max 0
theorem mx_ge : ∀ (l : List Nat) (b : Nat), b ≤ l.foldl max b ∧ ∀ x ∈ l, x ≤ l.foldl max b
  | [], b => ⟨Nat.le_refl _, fun x h => by cases h⟩
  | y :: l, b => by
    have ⟨h1, h2⟩ := mx_ge l (max b y)
    refine ⟨by show b ≤ l.foldl max (max b y); omega, fun x hx => ?_⟩
    rcases List.mem_cons.mp hx with e | e
    · show x ≤ l.foldl max (max b y)
      omega
    · exact h2 x e
theorem mx_mem : ∀ (l : List Nat) (b : Nat), l.foldl max b = b ∨ l.foldl max b ∈ l
  | [], b => .inl rfl
  | y :: l, b => by
    show l.foldl max (max b y) = b ∨ l.foldl max (max b y) ∈ y :: l
    rcases mx_mem l (max b y) with e | e
    · rw [e]
      by_cases h : y ≤ b
      · exact .inl (by omega)
      · exact .inr (by rw [show max b y = y by omega]; exact List.mem_cons_self ..)
    · exact .inr (List.mem_cons_of_mem _ e)
theorem mx_in {l : List Nat} (h : l ≠ []) : mx l ∈ l := by
  cases l with
  | nil => exact absurd rfl h
  | cons y l =>
    rcases mx_mem (y :: l) 0 with e | e
    · have h2 := (mx_ge (y :: l) 0).2 y (List.mem_cons_self ..)
      have : y = 0 := by omega
      unfold mx
      rw [e, ← this]
      exact List.mem_cons_self ..
    · exact e
theorem ev_max {p : Addr} {l : List Nat} (ha : Ev ta σ H (.ref p)) (hp : H p = some (.lst (nvs l))) (hne : l ≠ []) : Ev (tCB (rMax K) (tCons ta tNil)) σ H (nv (mx l)) := fun H1 e Q q => ha H1 e _ fun H2 e2 => by
  refine ⟨p, l.map (fun n : Nat => (n : Int)), rfl, sq_of (by rw [← nvs_int]; exact (e.trans e2) p _ hp), ?_, fun m hm hge => ?_⟩
  · rw [List.length_map]
    exact List.length_pos_iff.mpr hne
  · obtain ⟨n, hn, rfl⟩ := List.mem_map.mp hm
    have h1 : mx l ≤ n := by
      have := hge _ (List.mem_map.mpr ⟨mx l, mx_in hne, rfl⟩)
      have h2 : ((mx l : Nat) : Int) ≤ (n : Int) := this
      omega
    have h3 := (mx_ge l 0).2 n hn
    have e3 : n = mx l := Nat.le_antisymm h3 h1
    rw [e3]
    exact q H2 e2
theorem or_nat (a b : Nat) : Builtin.bitOr (a : Int) (b : Int) = ((a ||| b : Nat) : Int) := by
  rw [Bits.bitOr_pp (Int.natCast_nonneg _) (Int.natCast_nonneg _), Int.toNat_natCast, Int.toNat_natCast]
theorem and_nat (a b : Nat) : Builtin.bitAnd (a : Int) (b : Int) = ((a &&& b : Nat) : Int) := by
  rw [bitAnd_pp (Int.natCast_nonneg _) (Int.natCast_nonneg _), Int.toNat_natCast, Int.toNat_natCast]
theorem ev_shl {a b : Nat} (ha : Ev ta σ H (nv a)) (hb : Ev tb σ H (nv b)) (h1 : a < 2 ^ 64) (h2 : b ≤ 1000000) : Ev (tOp (rI CPow fun i j => .int (i * 2 ^ j.toNat)) ta tb) σ H (nv (a * 2 ^ b)) :=
  ev_is (ev_op ha hb (rv_I ⟨by omega, by omega, by rw [Int.natAbs_natCast]; exact h1⟩)) (by
    show V.int _ = V.int _
    rw [Int.toNat_natCast]
    simp)
theorem ev_or {a b : Nat} (ha : Ev ta σ H (nv a)) (hb : Ev tb σ H (nv b)) : Ev (tOp (rI0 fun i j => .int (Builtin.bitOr i j)) ta tb) σ H (nv (a ||| b)) := ev_is (ev_op ha hb rv_I0) (by show V.int _ = V.int _; rw [or_nat])
theorem ev_and {a b : Nat} (ha : Ev ta σ H (nv a)) (hb : Ev tb σ H (nv b)) : Ev (tOp (rI0 fun i j => .int (Builtin.bitAnd i j)) ta tb) σ H (nv (a &&& b)) := ev_is (ev_op ha hb rv_I0) (by show V.int _ = V.int _; rw [and_nat])
theorem ev_add {a b : Nat} (ha : Ev ta σ H (nv a)) (hb : Ev tb σ H (nv b)) : Ev (tOp (rI0 fun i j => .int (i + j)) ta tb) σ H (nv (a + b)) := ev_is (ev_op ha hb rv_I0) (by show V.int _ = V.int _; rw [Int.natCast_add])
theorem ev_sub {a b : Nat} (ha : Ev ta σ H (nv a)) (hb : Ev tb σ H (nv b)) (h : b ≤ a) : Ev (tOp (rI0 fun i j => .int (i - j)) ta tb) σ H (nv (a - b)) := ev_is (ev_op ha hb rv_I0) (by show V.int _ = V.int _; congr 1; omega)
theorem ev_mul {a b : Nat} (ha : Ev ta σ H (nv a)) (hb : Ev tb σ H (nv b)) (h : a < 2 ^ 63) : Ev (tOp (rI CMul fun i j => .int (i * j)) ta tb) σ H (nv (a * b)) := ev_is (ev_op ha hb (rv_I (.inl ⟨by omega, by omega⟩))) (by show V.int _ = V.int _; rw [Int.natCast_mul])
theorem ev_lt {a b : Nat} (ha : Ev ta σ H (nv a)) (hb : Ev tb σ H (nv b)) : Ev (tOp (rI0 fun i j => .bl (decide (i < j))) ta tb) σ H (.bl (decide (a < b))) := ev_is (ev_op ha hb rv_I0) (by show V.bl _ = V.bl _; congr 1; exact decide_eq_decide.mpr Int.ofNat_lt)
theorem ev_ge {a b : Nat} (ha : Ev ta σ H (nv a)) (hb : Ev tb σ H (nv b)) : Ev (tOp (rI0 fun i j => .bl (decide (j ≤ i))) ta tb) σ H (.bl (decide (b ≤ a))) := ev_is (ev_op ha hb rv_I0) (by show V.bl _ = V.bl _; congr 1; exact decide_eq_decide.mpr Int.ofNat_le)
theorem ev_gt {a b : Nat} (ha : Ev ta σ H (nv a)) (hb : Ev tb σ H (nv b)) : Ev (tOp (rI0 fun i j => .bl (decide (j < i))) ta tb) σ H (.bl (decide (b < a))) := ev_is (ev_op ha hb rv_I0) (by show V.bl _ = V.bl _; congr 1; exact decide_eq_decide.mpr Int.ofNat_lt)
theorem ev_ne {a b : Nat} (ha : Ev ta σ H (nv a)) (hb : Ev tb σ H (nv b)) : Ev (tOp rNe ta tb) σ H (.bl (!decide (a = b))) := ev_is (ev_op ha hb (rv_ne rfl)) (by
  show V.bl _ = V.bl _
  congr 2
  refine decide_eq_decide.mpr ⟨fun h => ?_, fun h => by rw [h]⟩
  have : (a : Int) = (b : Int) := V.int.inj h
  omega)
theorem ev_eqn {a b : Nat} (ha : Ev ta σ H (nv a)) (hb : Ev tb σ H (nv b)) : Ev (tOp rEq ta tb) σ H (.bl (decide (a = b))) := ev_is (ev_op ha hb (rv_eq rfl)) (by
  show V.bl _ = V.bl _
  congr 1
  refine decide_eq_decide.mpr ⟨fun h => ?_, fun h => by rw [h]⟩
  have : (a : Int) = (b : Int) := V.int.inj h
  omega)
/-- all([..]), any([..]), sum([..]) of a new list -/
theorem ev_all {bs : List Bool} (ha : EvL ta σ H (bs.map V.bl)) : Ev (tCB (rAll K) (tCons ta tNil)) σ H (.bl (bs.all id)) := fun H1 e Q q => ha H1 e _ fun p H2 _ e2 hp => ⟨p, bs, rfl, sq_of hp, q H2 e2⟩
theorem ev_any {bs : List Bool} (ha : EvL ta σ H (bs.map V.bl)) : Ev (tCB (rAny K) (tCons ta tNil)) σ H (.bl (bs.any id)) := fun H1 e Q q => ha H1 e _ fun p H2 _ e2 hp => ⟨p, bs, rfl, sq_of hp, q H2 e2⟩
theorem nat_sum (l : List Nat) : (l.map fun n : Nat => (n : Int)).sum = ((l.sum : Nat) : Int) := by
  induction l with
  | nil => rfl
  | cons a l ih => rw [List.map_cons, List.sum_cons, List.sum_cons, ih, Int.natCast_add]
theorem ev_sum {l : List Nat} (ha : EvL ta σ H (nvs l)) : Ev (tCB (rSum K) (tCons ta tNil)) σ H (nv l.sum) := fun H1 e Q q => ha H1 e _ fun p H2 _ e2 hp => ⟨p, l.map (fun n : Nat => (n : Int)), rfl, sq_of (by rw [← nvs_int]; exact hp), by
  rw [nat_sum]
  exact q H2 e2⟩
/-- list(range(n)) -/
theorem el_listRg {n : Nat} (ha : Ev ta σ H (nv n)) (hn : n ≤ 1000) : EvL (tLstRg (tRg1 ta)) σ H (nvs (List.range n)) := fun H1 e Q q => ha H1 e _ fun H2 e2 => ⟨(n : Int), rfl, RgOk.of_le (by omega) (by omega) (by omega) (by omega), fun p hp => by
  have e3 : rgV 0 (n : Int) = nvs (List.range n) := by
    unfold rgV
    rw [Int.sub_zero, Int.toNat_natCast]
    refine List.map_congr_left fun i _ => ?_
    show V.int _ = V.int _
    rw [Int.zero_add]
  rw [e3]
  exact q p _ (fresh_back e2 hp) (e2.trans (Ex.new hp)) upd_same⟩
/-- what is given where every turn gives -/
theorem given_all {n : Nat} {g : Nat → V} : given n (fun _ => true) g = (List.range n).map g := by
  unfold given
  rw [List.filter_eq_self.mpr fun _ _ => rfl]
theorem et_yes {H : Hp} : EvT tYes σ H true := fun H1 _ Q q => q H1 (Ex.refl H1)
theorem given_congr {f f' : Nat → Bool} {g g' : Nat → V} : ∀ n : Nat, (∀ i, i < n → f i = f' i ∧ g i = g' i) → given n f g = given n f' g'
  | 0, _ => rfl
  | n + 1, h => by
    have ih := given_congr n fun i hi => h i (by omega)
    obtain ⟨h1, h2⟩ := h n (by omega)
    cases hf : f n with
    | true => rw [given_yes hf, given_yes (h1 ▸ hf), ih, h2]
    | false => rw [given_no hf, given_no (h1 ▸ hf), ih]
theorem given_data {α : Type} (p : α → Bool) (g : α → V) (ds : List α) : given ds.length (fun i => (ds[i]?).elim false p) (fun i => (ds[i]?).elim .non g) = (ds.filter p).map g := by
  have main : ∀ r : List α, given r.reverse.length (fun i => (r.reverse[i]?).elim false p) (fun i => (r.reverse[i]?).elim .non g) = (r.reverse.filter p).map g := by
    intro r
    induction r with
    | nil => rfl
    | cons d r ih =>
      rw [List.reverse_cons, List.length_append, List.filter_append, List.map_append, ← ih]
      have hc := given_congr (f := fun i => ((r.reverse ++ [d])[i]?).elim false p) (f' := fun i => (r.reverse[i]?).elim false p) (g := fun i => ((r.reverse ++ [d])[i]?).elim .non g) (g' := fun i => (r.reverse[i]?).elim .non g) r.reverse.length fun i hi => by
        rw [List.getElem?_append_left hi]
        exact ⟨rfl, rfl⟩
      have hat : (r.reverse ++ [d])[r.reverse.length]? = some d := by
        rw [List.getElem?_append_right (Nat.le_refl _), Nat.sub_self]
        rfl
      cases hp : p d with
      | true =>
        refine (given_yes (n := r.reverse.length) (by rw [hat]; exact hp)).trans ?_
        rw [hc, List.filter_cons, if_pos hp, hat]
        rfl
      | false =>
        refine (given_no (n := r.reverse.length) (by rw [hat]; exact hp)).trans ?_
        rw [hc, List.filter_cons, if_neg (by rw [hp]; decide)]
        exact (List.append_nil _).symm
  have h := main ds.reverse
  rw [List.reverse_reverse] at h
  exact h
/-- a comprehension over a list, told by data that lie beside its items -/
theorem el_lcD {α : Type} {a : Addr} {xs : List V} {ds : List α} {tl te : TE} {j : Nat} {vs : List Nat} (p : α → Bool) (g : α → V) (h : Ev tl σ H (.ref a)) (hx : SqL K H a xs) (hl : xs.length = ds.length) (hz : ds.length ≤ 40000) (hw : ∀ x, wipe ((wipe σ vs).set j (some x)) vs = wipe σ vs)
    (ht : ∀ (i : Nat) (x : V) (d : α) H1, Ex H H1 → xs[i]? = some x → ds[i]? = some d → EvT t ((wipe σ vs).set j (some x)) H1 (p d))
    (he : ∀ (i : Nat) (x : V) (d : α) H1, Ex H H1 → xs[i]? = some x → ds[i]? = some d → p d = true → Ev te ((wipe σ vs).set j (some x)) H1 (g d)) :
    EvL (tLc (iList K tl) (gName j) t te vs) σ H ((ds.filter p).map g) := by
  rw [← given_data, ← hl]
  have at_ : ∀ (i : Nat) (x : V), xs[i]? = some x → ∃ d, ds[i]? = some d := fun i x hi => by
    have := (List.getElem?_eq_some_iff.mp hi).1
    exact ⟨ds[i], List.getElem?_eq_getElem (by omega)⟩
  refine el_lcL _ _ h hx (by omega) hw (fun i x H1 e hi => ?_) (fun i x H1 e hi hf => ?_)
  · obtain ⟨d, hd⟩ := at_ i x hi
    rw [hd]
    exact ht i x d H1 e hi hd
  · obtain ⟨d, hd⟩ := at_ i x hi
    rw [hd] at hf ⊢
    exact he i x d H1 e hi hd hf
theorem filt_all {α : Type} (l : List α) : l.filter (fun _ => true) = l := List.filter_eq_self.mpr fun _ _ => rfl
theorem el_lcDm {α : Type} {a : Addr} {xs : List V} {ds : List α} {tl te : TE} {j : Nat} {vs : List Nat} (g : α → V) (h : Ev tl σ H (.ref a)) (hx : SqL K H a xs) (hl : xs.length = ds.length) (hz : ds.length ≤ 40000) (hw : ∀ x, wipe ((wipe σ vs).set j (some x)) vs = wipe σ vs)
    (he : ∀ (i : Nat) (x : V) (d : α) H1, Ex H H1 → xs[i]? = some x → ds[i]? = some d → Ev te ((wipe σ vs).set j (some x)) H1 (g d)) :
    EvL (tLc (iList K tl) (gName j) tYes te vs) σ H (ds.map g) := by
  have r := el_lcD (te := te) (fun _ : α => true) g h hx hl hz hw (fun i x d H1 e hi hd => et_yes) (fun i x d H1 e hi hd _ => he i x d H1 e hi hd)
  rw [filt_all] at r
  exact r
/-- over a new list told by a word -/
theorem el_lcP {α : Type} {xs : Addr → List V → Hp → Prop} {tl te : TE} {j : Nat} {vs : List Nat} {zs : List V} (h : EvP tl σ H P) (k : ∀ v H1, Ex H H1 → P v H1 → ∀ tl', Ev tl' σ H1 v → EvL (tLc (iList K tl') (gName j) t te vs) σ H1 zs) :
    EvL (tLc (iList K tl) (gName j) t te vs) σ H zs := fun H0 e Q q => h H0 e _ fun v H1 e1 hP => by
  have r := k v H1 (e.trans e1) hP (fun σ H Q => Q v H) (fun H2 _ Q2 q2 => q2 H2 (Ex.refl H2)) H1 (Ex.refl H1) Q (fun p H2 hp e2 h2 => q p H2 (fresh_back e1 hp) (e1.trans e2) h2)
  exact r
/-- over two lists at once, told by data -/
theorem el_lcZD {α β : Type} {ta : TA} {te : TE} {j1 j2 : Nat} {vs : List Nat} {a b : Addr} {xs ys : List V} {ds : List α} {es : List β} (g : α × β → V) (h : EvA ta σ H [.ref a, .ref b]) (hx : SqL K H a xs) (hy : SqL K H b ys) (hl : xs.length = ds.length) (hl2 : ys.length = es.length) (hde : ds.length = es.length) (hz : ds.length ≤ 40000)
    (hw : ∀ x y, wipe (((wipe σ vs).set j1 (some x)).set j2 (some y)) vs = wipe σ vs)
    (he : ∀ (i : Nat) (x y : V) (d : α) (e : β) H1, Ex H H1 → xs[i]? = some x → ys[i]? = some y → ds[i]? = some d → es[i]? = some e → Ev te (((wipe σ vs).set j1 (some x)).set j2 (some y)) H1 (g (d, e))) :
    EvL (tLc (iZip K ta) (gTup K 2 (gCons (gName j1) (gCons (gName j2) gNil))) tYes te vs) σ H ((ds.zip es).map g) := by
  have hzl : (ds.zip es).length = xs.length := by rw [List.length_zip]; omega
  have r := given_data (fun _ : α × β => true) g (ds.zip es)
  rw [filt_all] at r
  rw [← r, hzl]
  have at_ : ∀ (i : Nat) (x : V), xs[i]? = some x → ∃ d e, ds[i]? = some d ∧ es[i]? = some e ∧ (ds.zip es)[i]? = some (d, e) := fun i x hi => by
    have h1 := (List.getElem?_eq_some_iff.mp hi).1
    refine ⟨ds[i], es[i], List.getElem?_eq_getElem (by omega), List.getElem?_eq_getElem (by omega), ?_⟩
    rw [List.getElem?_zip_eq_some]
    exact ⟨List.getElem?_eq_getElem (by omega), List.getElem?_eq_getElem (by omega)⟩
  have r2 := el_lcZ (te := te) (t := tYes) (fun i => ((ds.zip es)[i]?).elim false fun _ => true) (fun i => ((ds.zip es)[i]?).elim .non g) h hx hy (by omega) (by omega) hw (fun i x y H1 e hi hj => by
    obtain ⟨d, e', h1, h2, h3⟩ := at_ i x hi
    rw [h3]
    exact et_yes) (fun i x y H1 e hi hj _ => by
    obtain ⟨d, e', h1, h2, h3⟩ := at_ i x hi
    rw [h3]
    exact he i x y d e' H1 e hi hj h1 h2)
  exact r2
end
end Tc
namespace Tc
open PySem PySem.Spec PyProof.Rows L2 Evl
/-! ## set(a list of numbers), its length -/
abbrev nSet (w : World) : Obj := { cls := .type "set", dict := none, data := .set #[] 0 (.fresh 0 0 (!w.params.followText "set-order")) }
/-- what a set made of a list is -/
def SetDone (w : World) (h0 : Heap) (S : Addr) (ns : List Int) (h' : Heap) : Prop := ∃ c, SetR w h' S (fun j => decide (j ∈ ns)) c ∧ c ≤ ns.length ∧ ∀ b o, h0.get? b = some o → h'.get? b = some o
section
variable {P : Program} {w : World} {A : Around} {E : Value → Shared → Prop} {s : Shared}
theorem set_of_list {l : Addr} {vs : Array Value} (ns : List Int) {Q : Value → Shared → Prop} (hh : A.handled = none) (hl : s.heap.IsList l vs) (hi : IntsAre vs.toList ns) (hb : ns.length + 1 < scanBound)
    (k : ∀ (h' : Heap) (tk : Nat), SetDone w s.heap s.heap.objs.size ns h' → Q (.ref s.heap.objs.size) { s with heap := h', toks := tk }) : wpAny (model P w) A (call (.type "set") [.ref l]) Q E s := by
  have hsz : vs.size = ns.length := (Array.length_toList (xs := vs)).symm.trans (IntsAre.length hi)
  have ⟨c0, t0, m0⟩ := F.called_set.mro
  have mk0 := F.called_set.made; have sb0 := F.called_set.sub; have nt0 := F.called_set.notType; have cc0 := F.called_set.canCreate; have tc0 := F.typeCall_set_1 (.ref l)
  refine wpAny_call (codeAny_of_tree (?_ : wpAny _ _ (callAny (.type "set") _) _ _ _))
  refine wpAny_pure ⟨Code.quiet_builtin _ (by decide +kernel), codeAny_builtin F.entry_type_call (?_)⟩
  rw [Around.under_plain (weight_type_call_type "set" [Value.ref l] []) (by rfl)]
  repeat (any_goals (first | assumption | wp_step))
  refine codeAny_mono (code_set_led1 (Value.ref l) (E := E) (Q₁ := fun v s1 => v = .ref s.heap.objs.size ∧ s1 = { s with heap := s.heap.push (nSet w) }) ⟨rfl, rfl⟩) fun r s1 hr => ?_
  match r, hr with
  | .error e, hr => exact hr
  | .ok (.ret v), hr =>
    obtain ⟨ev, es⟩ := hr
    subst ev es
    have hS : (s.heap.push (nSet w)).get? s.heap.objs.size = some (nSet w) := Heap.get?_push_size _ rfl
    have hT : Shared.TypeIs { s with heap := s.heap.push (nSet w) } (.ref s.heap.objs.size) "set" := ⟨_, hS, rfl⟩
    have lk0 := F.called_set.init.lookup; have bd0 := F.called_set.init.bind (.ref s.heap.objs.size)
    repeat (any_goals (first | assumption | wp_step))
    refine codeAny_mono (codeAny_call_builtin (R := wants (fun v s2 => v = .none ∧ ∃ h' tk, s2 = { s with heap := h', toks := tk } ∧ SetDone w s.heap s.heap.objs.size ns h') E) F.called_set.init.plain F.entry_set_init (check_set_init_1 hT ?_)) fun r2 s2 hr2 => ?_
    · have hlt : l < s.heap.objs.size := by
        obtain ⟨_, e, _⟩ := hl
        exact Heap.lt_size e
      have hl1 : (s.heap.push (nSet w)).IsList l vs := hl.push _
      obtain ⟨ol, e1, e2, nl, e3⟩ := id hl1
      have sl0 := F.sub_list_set; have sf0 := F.sub_list_frozenset
      have nd0 : (Value.type "list" == Value.type "dict") = false := by decide
      obtain ⟨oc, od, oda, osl⟩ := ol
      dsimp only at e2 e3
      subst e2 e3
      unfold Builtin.«set.__init__» noKeywords Builtin.Frozenset.updateFrom
      generalize hIt : pyIter = It0
      wp_walk
      subst hIt
      refine wpAny_pyIter_list hl1 (wpAny_bind (wpAny_runValue ?_))
      have z1 : (s.heap.push (nSet w)).objs.size = s.heap.objs.size + 1 := Heap.size_push ..
      have apart : l ≠ (s.heap.push (nSet w)).objs.size := Nat.ne_of_lt (by rw [z1]; exact Nat.lt_succ_of_lt hlt)
      have out : s.heap.objs.size ∉ [(s.heap.push (nSet w)).objs.size, l] := by
        rw [z1]
        simp only [List.mem_cons, List.not_mem_nil, or_false, not_or]
        exact ⟨Nat.ne_of_lt (Nat.lt_succ_self _), Nat.ne_of_gt hlt⟩
      have val : ∀ (i : Nat) (v : Value), vs[i]? = some v → ∃ k t, ns[i]? = some k ∧ v = .int k t := fun i v hv => by
        have hlti : i < ns.length := hsz ▸ (Array.getElem?_eq_some_iff.mp hv).1
        obtain ⟨t, e⟩ := PyProof.Rows.IntsAre.int_at hi i v (by rw [Array.getElem?_toList]; exact hv)
        refine ⟨ns[i], t, List.getElem?_eq_getElem hlti, e.trans ?_⟩
        rw [List.getD_eq_getElem?_getD, List.getElem?_eq_getElem hlti]
        rfl
      refine set_update_ints ((Walks.list (by simp [hh]) _ l apart vs).toS) s.heap.objs.size out ns hsz hb val (vs.size - 0) 0 _ (by omega) (Nat.zero_le _) ⟨⟨_, Heap.get?_push_size _ rfl, rfl, rfl⟩, hl1.push _⟩
        ⟨0, Nat.le_refl 0, setR_new_at (Heap.get?_push_of_some _ hS)⟩ fun s' c' hm hc' hS' => ?_
      obtain ⟨h', g2, d', tk', os'⟩ := s'
      cases (hm.gens : g2 = s.gens)
      cases (hm.drawn : d' = s.drawn)
      cases (hm.os : os' = s.os)
      show wpAny _ _ _ _ _ _
      refine wpAny_pure ?_
      show wpAny _ _ (ret Value.none) _ _ _
      refine wpAny_pure ⟨rfl, h', tk', rfl, c', hS', by omega, fun b o e => ?_⟩
      have hb0 : b < s.heap.objs.size := Heap.lt_size e
      refine hm.heap b o ?_ (Heap.get?_push_of_some _ (Heap.get?_push_of_some _ e))
      rw [z1]
      simp only [List.mem_cons, List.not_mem_nil, or_false, not_or]
      exact ⟨Nat.ne_of_lt hb0, Nat.ne_of_lt (Nat.lt_succ_of_lt hb0)⟩
    · match r2, hr2 with
      | .error e, hr2 => exact hr2
      | .ok (.ret v), hr2 =>
        obtain ⟨ev, h', tk, es, hd⟩ := hr2
        subst ev es
        repeat (any_goals (first | assumption | wp_step))
        exact k _ _ hd
end
section
variable {X : Cx}
def rSetLI (K : PySem.W.Frag) (w : World) : List V → Hp → VK → Prop := fun xs H Q => ∃ (l : Addr) (ns : List Int), xs = [.ref l] ∧ SqL K H l (ns.map V.int) ∧ ns.length + 1 < scanBound ∧
  ∀ (a : Addr) (ks : List Int), H a = none → ks.Nodup → (∀ k, k ∈ ks ↔ k ∈ ns) → Q (.ref a) (upd H a (SetO w a (fun j => decide (j ∈ ns)) ks.length))
theorem cr_setL (hc : X.calm = true) : CallR X (.type "set") (rSetLI X.K X.w) := by
  intro pins s σ H xs us Q I r h
  obtain ⟨l, ns, ex, hq, hb, q⟩ := h
  subst ex
  rw [Vals.ref1 r]
  obtain ⟨its, rv, pl, hz⟩ := I.list hq
  have hi : IntsAre its.toArray.toList ns := ints_of_vals rv
  refine set_of_list ns (I.ok.hd hc) pl.isList hi hb fun h' tk hd => ?_
  obtain ⟨c, hR, hcn, keep⟩ := hd
  obtain ⟨o, es, ep, t, ho, hex, hdt, gd, nd, hm, hsb, hf, hn, hr, hl⟩ := id hR
  have hlen : (es.toList.map keyOf).length = c := by rw [List.length_map, Array.length_toList, hn]
  have hfresh : H s.heap.objs.size = none := I.hok.fresh (Nat.le_refl _)
  have q2 := q s.heap.objs.size (es.toList.map keyOf) hfresh nd (fun k => by rw [← hm k, decide_eq_true_iff])
  rw [hlen] at q2
  exact ⟨.ref s.heap.objs.size, _, I.laid (t' := tk) (o := SetO X.w s.heap.objs.size (fun j => decide (j ∈ ns)) c) keep (Nat.le_refl _) (setO_new hR), rfl, q2⟩
/-- len of a set -/
def rLenSet (w : World) : List V → Hp → VK → Prop := fun xs H Q => ∃ (a : Addr) (S : Int → Bool) (n : Nat), xs = [.ref a] ∧ H a = some (SetO w a S n) ∧ Q (nv n) H
theorem call_lenSet : CallR X (.builtin "len") (rLenSet X.w) := by
  intro pins s σ H xs us Q I r h
  obtain ⟨a, S, n, ex, ha, q⟩ := h
  subst ex
  rw [Vals.ref1 r]
  obtain ⟨o, es, ep, t, ho, hex, hdt, gd, nd, hm, hsb, hf, hn, hr, hl⟩ := setO_get I ha
  have hfit : (es.size : Int) < 2 ^ 63 := by
    unfold scanBound at hsb
    omega
  refine call_len_set ho hex hdt hf hfit ?_
  rw [hn]
  exact ⟨nv n, H, I.tok _, ⟨_, rfl⟩, q⟩
end
end Tc
namespace Tc
open PySem PySem.Spec PyProof.Rows L2 Evl
/-! ## zip of three lists -/
abbrev Tri (h : Heap) (T : Addr) (a b c : Value) : Prop := h.get? T = some { cls := .type "tuple", data := .seq #[a, b, c] }
/-- where the parts of a zip of three stand: made at n -/
abbrev LI (h : Heap) (it l : Addr) (k : Nat) : Prop := h.IsListIter it l k
section
variable {P : Program} {w : World} {A : Around} {E : Value → Shared → Prop} {s : Shared}
theorem tri_set {T : Addr} {a b c x : Value} {k : Nat} {Q : Unit → Shared → Prop} (hT : Tri s.heap T a b c)
    (q : ∀ h', h'.get? T = some { cls := .type "tuple", data := .seq ((#[a, b, c] : Array Value).setIfInBounds k x) } → Heap.SameBut T s.heap h' → Q () { s with heap := h' }) : wpAny (model P w) A (updateSeq T (·.setIfInBounds k x)) Q E s := by
  refine wpAny_updateSeq hT rfl (q _ ?_ (Heap.SameBut.update ..))
  refine (Heap.get?_update_self _ hT rfl).trans ?_
  simp [Obj.mapSeq]
variable {n l1 l2 l3 k : Nat} {xs ys zs : Array Value} {x y u a b c : Value}
/-- a turn: n, n + 1, n + 2 the iterators, n + 3 their tuple, n + 4 the tuple kept, n + 5 the zip -/
theorem zip3_item {Q : Value → Shared → Prop} (b1 : l1 < n) (b2 : l2 < n) (b3 : l3 < n) (hz : IsZip s.heap (n + 5) (n + 3) (n + 4) .none) (hI : Tri s.heap (n + 3) (.ref n) (.ref (n + 1)) (.ref (n + 2))) (hO : Tri s.heap (n + 4) a b c)
    (i1 : LI s.heap n l1 k) (i2 : LI s.heap (n + 1) l2 k) (i3 : LI s.heap (n + 2) l3 k) (hl1 : s.heap.IsList l1 xs) (hl2 : s.heap.IsList l2 ys) (hl3 : s.heap.IsList l3 zs) (hx : xs[k]? = some x) (hy : ys[k]? = some y) (hu : zs[k]? = some u)
    (q : ∀ h', IsZip h' (n + 5) (n + 3) (n + 4) (rawInt s.heap.objs.size) → Tri h' (n + 4) x y u → LI h' n l1 (k + 1) → LI h' (n + 1) l2 (k + 1) → LI h' (n + 2) l3 (k + 1) → Tri h' s.heap.objs.size x y u → h'.objs.size = s.heap.objs.size + 1 →
      (∀ (d : Nat) o, d ≠ n + 5 → d ≠ n + 4 → d ≠ n → d ≠ n + 1 → d ≠ n + 2 → s.heap.get? d = some o → h'.get? d = some o) → Q (.ref s.heap.objs.size) { s with heap := h' }) :
    wpAny (model P w) A (Builtin.«zip.__next__» ⟨[.ref (n + 5)], []⟩) (fun fin s' => ∃ v, fin = .done (.ret v) ∧ Q v s') E s := by
  have ne : ∀ {i j : Nat}, i ≠ j → n + i ≠ n + j := fun h e => h (by omega)
  have e0 : n = n + 0 := rfl
  refine (show wpAny _ _ (field (.ref (n + 5)) 2 >>= _) _ _ _ from wpAny_bind (wpAny_field hz rfl (x := .bool false) rfl ?_))
  refine (show wpAny _ _ (field (.ref (n + 5)) 3 >>= _) _ _ _ from wpAny_bind (wpAny_field hz rfl (x := .ref (n + 3)) rfl (wpAny_bind (wpAny_seqItems hI rfl ?_))))
  refine (show wpAny _ _ (Builtin.SmallTypes.ownedTupleIsFree (.ref (n + 5)) >>= _) _ _ _ from wpAny_bind ?_)
  unfold Builtin.SmallTypes.ownedTupleIsFree
  refine wpAny_bind (wpAny_field hz rfl (x := .none) rfl (wpAny_pure ?_)); simp only [if_true]
  refine wpAny_bind (wpAny_rule (wpAny_bind (wpAny_field hz rfl (x := .ref (n + 4)) rfl (wpAny_bind (wpAny_setField_rec hz (by simp) fun g1 z1 s1 => ?_)))))
  replace z1 : IsZip g1 (n + 5) (n + 3) (n + 4) .ellipsis := z1
  refine wpAny_bind ?_; simp only [List.zipIdx_cons, List.zipIdx_nil, List.forIn_cons, List.forIn_nil]
  -- the first
  refine wpAny_bind (wpAny_bind (wpAny_onRaise (?_ : wpAny _ _ (Builtin.SmallTypes.nextOf (.ref n) >>= _) _ _ _)))
  refine wpAny_bind (wpAny_nextOf_list_item (i1.extBut s1.extBut (show n ≠ n + 5 by omega)) (hl1.extBut s1.extBut (show l1 ≠ n + 5 by omega)) hx fun g2 j1 s2 => wpAny_pure ?_)
  have o2 : Tri g2 (n + 4) a b c := s2.extBut _ _ (show n + 4 ≠ n by omega) (s1.extBut _ _ (show n + 4 ≠ n + 5 by omega) hO)
  refine wpAny_bind (wpAny_seqItems o2 rfl (wpAny_bind (tri_set o2 fun g3 o3 s3 => wpAny_bind (wpAny_letGo (wpAny_pure ?_)))))
  replace o3 : Tri g3 (n + 4) x b c := o3
  -- the second
  refine wpAny_bind (wpAny_bind (wpAny_onRaise (?_ : wpAny _ _ (Builtin.SmallTypes.nextOf (.ref (n + 1)) >>= _) _ _ _)))
  refine wpAny_bind (wpAny_nextOf_list_item (((i2.extBut s1.extBut (show n + 1 ≠ n + 5 by omega)).extBut s2.extBut (show n + 1 ≠ n by omega)).extBut s3.extBut (show n + 1 ≠ n + 4 by omega)) (((hl2.extBut s1.extBut (show l2 ≠ n + 5 by omega)).extBut s2.extBut (show l2 ≠ n by omega)).extBut s3.extBut (show l2 ≠ n + 4 by omega)) hy fun g4 j2 s4 => wpAny_pure ?_)
  have o4 : Tri g4 (n + 4) x b c := s4.extBut _ _ (show n + 4 ≠ n + 1 by omega) o3
  refine wpAny_bind (wpAny_seqItems o4 rfl (wpAny_bind (tri_set o4 fun g5 o5 s5 => wpAny_bind (wpAny_letGo (wpAny_pure ?_)))))
  replace o5 : Tri g5 (n + 4) x y c := o5
  -- the third
  refine wpAny_bind (wpAny_bind (wpAny_onRaise (?_ : wpAny _ _ (Builtin.SmallTypes.nextOf (.ref (n + 2)) >>= _) _ _ _)))
  refine wpAny_bind (wpAny_nextOf_list_item (((((i3.extBut s1.extBut (show n + 2 ≠ n + 5 by omega)).extBut s2.extBut (show n + 2 ≠ n by omega)).extBut s3.extBut (show n + 2 ≠ n + 4 by omega)).extBut s4.extBut (show n + 2 ≠ n + 1 by omega)).extBut s5.extBut (show n + 2 ≠ n + 4 by omega))
    (((((hl3.extBut s1.extBut (show l3 ≠ n + 5 by omega)).extBut s2.extBut (show l3 ≠ n by omega)).extBut s3.extBut (show l3 ≠ n + 4 by omega)).extBut s4.extBut (show l3 ≠ n + 1 by omega)).extBut s5.extBut (show l3 ≠ n + 4 by omega)) hu fun g6 j3 s6 => wpAny_pure ?_)
  have o6 : Tri g6 (n + 4) x y c := s6.extBut _ _ (show n + 4 ≠ n + 2 by omega) o5
  refine wpAny_bind (wpAny_seqItems o6 rfl (wpAny_bind (tri_set o6 fun g7 o7 s7 => wpAny_bind (wpAny_letGo (wpAny_pure (wpAny_pure ?_))))))
  replace o7 : Tri g7 (n + 4) x y u := o7
  refine wpAny_bind (wpAny_seqItems o7 rfl (wpAny_bind (wpAny_newTuple ?_)))
  have sz : g7.objs.size = s.heap.objs.size := by rw [s7.1, s6.1, s5.1, s4.1, s3.1, s2.1, s1.1]
  have keep : ∀ (d : Nat) o, d ≠ n + 4 → d ≠ n → d ≠ n + 1 → d ≠ n + 2 → g1.get? d = some o → g7.get? d = some o := fun d o d1 d2 d3 d4 e => s7.extBut _ _ d1 (s6.extBut _ _ d4 (s5.extBut _ _ d1 (s4.extBut _ _ d3 (s3.extBut _ _ d1 (s2.extBut _ _ d2 e)))))
  have z7 : IsZip g7 (n + 5) (n + 3) (n + 4) .ellipsis := keep _ _ (by omega) (by omega) (by omega) (by omega) z1
  have r1 : LI g7 n l1 (k + 1) := (((((j1.extBut s3.extBut (show n ≠ n + 4 by omega)).extBut s4.extBut (show n ≠ n + 1 by omega)).extBut s5.extBut (show n ≠ n + 4 by omega)).extBut s6.extBut (show n ≠ n + 2 by omega)).extBut s7.extBut (show n ≠ n + 4 by omega))
  have r2 : LI g7 (n + 1) l2 (k + 1) := (((j2.extBut s5.extBut (show n + 1 ≠ n + 4 by omega)).extBut s6.extBut (show n + 1 ≠ n + 2 by omega)).extBut s7.extBut (show n + 1 ≠ n + 4 by omega))
  have r3 : LI g7 (n + 2) l3 (k + 1) := j3.extBut s7.extBut (show n + 2 ≠ n + 4 by omega)
  have lt7 : n + 5 < g7.objs.size := Heap.lt_size z7
  refine (show wpAny _ _ (Builtin.SmallTypes.ownedTupleHandOut (.ref (n + 5)) (.ref g7.objs.size) >>= _) _ _ _ from wpAny_bind ?_)
  unfold Builtin.SmallTypes.ownedTupleHandOut
  have z8 : IsZip (g7.push { cls := .type "tuple", data := .seq #[x, y, u] }) (n + 5) (n + 3) (n + 4) .ellipsis := Heap.get?_push_of_some _ z7
  refine wpAny_bind (wpAny_setField_rec z8 (by simp) fun g8 z9 s8 => ?_)
  replace z9 : IsZip g8 (n + 5) (n + 3) (n + 4) (rawInt g7.objs.size) := z9
  refine wpAny_setField_rec z9 (by simp) fun g9 z10 s9 => ?_
  replace z10 : IsZip g9 (n + 5) (n + 3) (n + 4) (rawInt g7.objs.size) := z10
  have up : ∀ (d : Nat) o, d ≠ n + 5 → g7.get? d = some o → g9.get? d = some o := fun d o d1 e => s9.extBut _ _ d1 (s8.extBut _ _ d1 (Heap.get?_push_of_some _ e))
  have t9 : Tri g9 g7.objs.size x y u := s9.extBut _ _ (Nat.ne_of_gt lt7) (s8.extBut _ _ (Nat.ne_of_gt lt7) (Heap.get?_push_size _ rfl))
  have sz9 : g9.objs.size = g7.objs.size + 1 := by rw [s9.1, s8.1, Heap.size_push]
  rw [sz] at z10 t9 sz9
  refine wpAny_pure ⟨_, rfl, (?_ : Q (.ref g7.objs.size) _)⟩
  rw [sz]
  exact q g9 z10 (up _ _ (by omega) o7) (r1.at fun o e => up _ o (by omega) e) (r2.at fun o e => up _ o (by omega) e) (r3.at fun o e => up _ o (by omega) e) t9 sz9 fun d o d1 d2 d3 d4 d5 e => up d o d1 (keep d o d2 d3 d4 d5 (s1.extBut _ _ d1 e))
theorem zip3_end {Q : Fin → Shared → Prop} (hh : A.handled = none) (b1 : l1 < n) (hz : IsZip s.heap (n + 5) (n + 3) (n + 4) .none) (hI : Tri s.heap (n + 3) (.ref n) (.ref (n + 1)) (.ref (n + 2)))
    (i1 : LI s.heap n l1 k) (hl1 : s.heap.IsList l1 xs) (hx : xs[k]? = none)
    (q : ∀ h' e, (∀ (d : Nat) o, d ≠ n + 5 → d ≠ n → s.heap.get? d = some o → h'.get? d = some o) → (∃ o, h'.get? e = some o ∧ o.cls = .type "StopIteration") → E (.ref e) { s with heap := h' }) :
    wpAny (model P w) A (Builtin.«zip.__next__» ⟨[.ref (n + 5)], []⟩) Q E s := by
  refine (show wpAny _ _ (field (.ref (n + 5)) 2 >>= _) _ _ _ from wpAny_bind (wpAny_field hz rfl (x := .bool false) rfl ?_))
  refine (show wpAny _ _ (field (.ref (n + 5)) 3 >>= _) _ _ _ from wpAny_bind (wpAny_field hz rfl (x := .ref (n + 3)) rfl (wpAny_bind (wpAny_seqItems hI rfl ?_))))
  refine (show wpAny _ _ (Builtin.SmallTypes.ownedTupleIsFree (.ref (n + 5)) >>= _) _ _ _ from wpAny_bind ?_)
  unfold Builtin.SmallTypes.ownedTupleIsFree
  refine wpAny_bind (wpAny_field hz rfl (x := .none) rfl (wpAny_pure ?_)); simp only [if_true]
  refine wpAny_bind (wpAny_rule (wpAny_bind (wpAny_field hz rfl (x := .ref (n + 4)) rfl (wpAny_bind (wpAny_setField_rec hz (by simp) fun g1 z1 s1 => ?_)))))
  replace z1 : IsZip g1 (n + 5) (n + 3) (n + 4) .ellipsis := z1
  refine wpAny_bind ?_; simp only [List.zipIdx_cons, List.zipIdx_nil, List.forIn_cons, List.forIn_nil]
  refine wpAny_bind (wpAny_bind (wpAny_onRaise (?_ : wpAny _ _ (Builtin.SmallTypes.nextOf (.ref n) >>= _) _ _ _)))
  refine wpAny_bind (wpAny_nextOf_list_end hh (i1.extBut s1.extBut (show n ≠ n + 5 by omega)) (hl1.extBut s1.extBut (show l1 ≠ n + 5 by omega)) hx fun g2 e s2 he => ?_)
  obtain ⟨oe, ho, hc⟩ := he
  have z2 : IsZip g2 (n + 5) (n + 3) (n + 4) .ellipsis := s2 _ _ (show n + 5 ≠ n by omega) z1
  have ez : e ≠ n + 5 := fun h => by
    rw [h, z2] at ho
    cases ho
    simp at hc
  exact wpAny_setField_rec z2 (by simp) fun g3 _ s3 => q g3 e (fun d o d1 d2 h => s3.extBut _ _ d1 (s2 _ _ d2 (s1.extBut _ _ d1 h))) ⟨oe, s3.extBut _ _ ez ho, hc⟩
end
abbrev zO1 (h : Heap) (l1 : Addr) : Heap := h.push { cls := .type "list_iterator", data := .fields #[.ref l1, .int 0 0] }
abbrev zO2 (h : Heap) (l1 l2 : Addr) : Heap := zO1 (zO1 h l1) l2
abbrev zO3 (h : Heap) (l1 l2 l3 : Addr) : Heap := zO1 (zO2 h l1 l2) l3
abbrev zO4 (h : Heap) (l1 l2 l3 : Addr) : Heap := (zO3 h l1 l2 l3).push { cls := .type "tuple", data := .seq #[.ref h.objs.size, .ref (zO1 h l1).objs.size, .ref (zO2 h l1 l2).objs.size] }
abbrev zO5 (h : Heap) (l1 l2 l3 : Addr) : Heap := (zO4 h l1 l2 l3).push { cls := .type "tuple", data := .seq #[.none, .none, .none] }
abbrev zO6 (h : Heap) (l1 l2 l3 : Addr) : Heap := (zO5 h l1 l2 l3).push { cls := .type "zip", data := .fields #[.none, .bool false, .bool false, .ref (zO3 h l1 l2 l3).objs.size, .ref (zO4 h l1 l2 l3).objs.size] }
theorem meets_zip3 (l1 l2 l3 : Addr) (xs ys zs : Array Value) : Meets (Builtin.«zip.__new__» ⟨[.type "zip", .ref l1, .ref l2, .ref l3], []⟩)
    (fun _ R s => s.heap.IsList l1 xs ∧ s.heap.IsList l2 ys ∧ s.heap.IsList l3 zs ∧ R (.ok (.ret (.ref (zO5 s.heap l1 l2 l3).objs.size))) { s with heap := zO6 s.heap l1 l2 l3 }) :=
  .of_wp fun prog w A R s h => by
    obtain ⟨hp, g, d, tk, os⟩ := s
    obtain ⟨p1, p2, p3, q⟩ := h
    have sub0 := PySem.sub_zip
    have L1 : Heap.IsList (Shared.heap ⟨hp, g, d, tk, os⟩) l1 xs := p1
    have L2 : Heap.IsList (Shared.heap ⟨zO1 hp l1, g, d, tk, os⟩) l2 ys := Heap.IsList.push p2 _
    have L3 : Heap.IsList (Shared.heap ⟨zO2 hp l1 l2, g, d, tk, os⟩) l3 zs := Heap.IsList.push (Heap.IsList.push p3 _) _
    wp_walk using wpAny_pyIter_list L1, wpAny_pyIter_list L2, wpAny_pyIter_list L3
    exact ⟨_, rfl, q⟩
theorem tc_zip3 (a b c : Value) : checkTypeCall "zip" ⟨[a, b, c], []⟩ = pure () := by kernel_rfl
theorem nc_zip3 (a b c : Value) : checkBuiltinCall "zip.__new__" ⟨[.type "zip", a, b, c], []⟩ = pure () := by kernel_rfl
theorem ao_4 (a b c d : Value) : argsOk "object.__init__" ⟨[a, b, c, d], []⟩ := by
  unfold argsOk
  rw [signature?_of (id := "object.__init__") (n := "__init__".toList.reverse) (o := "object".toList.reverse) (by kernel_rfl) F.owner_object]
  kernel_rfl
section
variable {P : Program} {w : World} {A : Around} {E : Value → Shared → Prop} {s : Shared}
theorem call_zip3 {l1 l2 l3 : Addr} {xs ys zs : Array Value} {Q : Value → Shared → Prop} (p1 : s.heap.IsList l1 xs) (p2 : s.heap.IsList l2 ys) (p3 : s.heap.IsList l3 zs)
    (q : ∀ h', IsZip h' (s.heap.objs.size + 5) (s.heap.objs.size + 3) (s.heap.objs.size + 4) .none → Tri h' (s.heap.objs.size + 3) (.ref s.heap.objs.size) (.ref (s.heap.objs.size + 1)) (.ref (s.heap.objs.size + 2)) → Tri h' (s.heap.objs.size + 4) .none .none .none →
      LI h' s.heap.objs.size l1 0 → LI h' (s.heap.objs.size + 1) l2 0 → LI h' (s.heap.objs.size + 2) l3 0 → h'.objs.size = s.heap.objs.size + 6 → (∀ (c : Nat) o, s.heap.get? c = some o → h'.get? c = some o) → Q (.ref (s.heap.objs.size + 5)) { s with heap := h' }) :
    wpAny (model P w) A (call (.type "zip") [.ref l1, .ref l2, .ref l3]) Q E s := by
  refine callType_new F.called_zip (by decide) (tc_zip3 _ _ _) (nc_zip3 _ _ _) (fun obj => ao_4 obj _ _ _) F.entry_zip_new (meets_zip3 l1 l2 l3 xs ys zs) ⟨p1, p2, p3, ?_⟩
  generalize hn : s.heap.objs.size = n at q ⊢
  have z1 : (zO1 s.heap l1).objs.size = n + 1 := by rw [Heap.size_push, hn]
  have z2 : (zO2 s.heap l1 l2).objs.size = n + 2 := by rw [Heap.size_push, z1]
  have z3 : (zO3 s.heap l1 l2 l3).objs.size = n + 3 := by rw [Heap.size_push, z2]
  have z4 : (zO4 s.heap l1 l2 l3).objs.size = n + 4 := by rw [Heap.size_push, z3]
  have z5 : (zO5 s.heap l1 l2 l3).objs.size = n + 5 := by rw [Heap.size_push, z4]
  have z6 : (zO6 s.heap l1 l2 l3).objs.size = n + 6 := by rw [Heap.size_push, z5]
  have u : ∀ (h : Heap) (o : Obj) (c : Nat) (v : Obj), h.get? c = some v → (h.push o).get? c = some v := fun h o c v e => Heap.get?_push_of_some _ e
  have g6 : (zO6 s.heap l1 l2 l3).get? (zO5 s.heap l1 l2 l3).objs.size = some _ := Heap.get?_push_size _ rfl
  have g5 : (zO6 s.heap l1 l2 l3).get? (zO4 s.heap l1 l2 l3).objs.size = some _ := u _ _ _ _ (Heap.get?_push_size _ rfl)
  have g4 : (zO6 s.heap l1 l2 l3).get? (zO3 s.heap l1 l2 l3).objs.size = some _ := u _ _ _ _ (u _ _ _ _ (Heap.get?_push_size _ rfl))
  have g3 : (zO6 s.heap l1 l2 l3).get? (zO2 s.heap l1 l2).objs.size = some _ := u _ _ _ _ (u _ _ _ _ (u _ _ _ _ (Heap.get?_push_size _ rfl)))
  have g2 : (zO6 s.heap l1 l2 l3).get? (zO1 s.heap l1).objs.size = some _ := u _ _ _ _ (u _ _ _ _ (u _ _ _ _ (u _ _ _ _ (Heap.get?_push_size _ rfl))))
  have g1 : (zO6 s.heap l1 l2 l3).get? s.heap.objs.size = some _ := u _ _ _ _ (u _ _ _ _ (u _ _ _ _ (u _ _ _ _ (u _ _ _ _ (Heap.get?_push_size _ rfl)))))
  rw [z3, z4, z5] at g6
  rw [z4] at g5
  rw [z1, z2, z3, hn] at g4
  rw [z2] at g3
  rw [z1] at g2
  rw [hn] at g1
  show _ ∧ _
  rw [z5]
  exact ⟨⟨_, g6, rfl⟩, q _ g6 g4 g5 ⟨_, g1, rfl, rfl⟩ ⟨_, g2, rfl, rfl⟩ ⟨_, g3, rfl, rfl⟩ z6 fun c o e => u _ _ _ _ (u _ _ _ _ (u _ _ _ _ (u _ _ _ _ (u _ _ _ _ (u _ _ _ _ e)))))⟩
variable {n l1 l2 l3 k : Nat} {xs ys zs : Array Value} {x y u a b c : Value}
theorem next3_item {Q : Option Value → Shared → Prop} (b1 : l1 < n) (b2 : l2 < n) (b3 : l3 < n) (hz : IsZip s.heap (n + 5) (n + 3) (n + 4) .none) (hI : Tri s.heap (n + 3) (.ref n) (.ref (n + 1)) (.ref (n + 2))) (hO : Tri s.heap (n + 4) a b c)
    (i1 : LI s.heap n l1 k) (i2 : LI s.heap (n + 1) l2 k) (i3 : LI s.heap (n + 2) l3 k) (hl1 : s.heap.IsList l1 xs) (hl2 : s.heap.IsList l2 ys) (hl3 : s.heap.IsList l3 zs) (hx : xs[k]? = some x) (hy : ys[k]? = some y) (hu : zs[k]? = some u)
    (q : ∀ h', IsZip h' (n + 5) (n + 3) (n + 4) (rawInt s.heap.objs.size) → Tri h' (n + 4) x y u → LI h' n l1 (k + 1) → LI h' (n + 1) l2 (k + 1) → LI h' (n + 2) l3 (k + 1) → Tri h' s.heap.objs.size x y u → h'.objs.size = s.heap.objs.size + 1 →
      (∀ (d : Nat) o, d ≠ n + 5 → d ≠ n + 4 → d ≠ n → d ≠ n + 1 → d ≠ n + 2 → s.heap.get? d = some o → h'.get? d = some o) → Q (some (.ref s.heap.objs.size)) { s with heap := h' }) :
    wpAny (model P w) A (pyNext (.ref (n + 5))) Q E s := by
  have hT : s.TypeIs (.ref (n + 5)) "zip" := ⟨_, hz, rfl⟩
  unfold pyNext
  refine wpAny_bind (wpAny_attempt (wpAny_callSpecial?_slot (name := Str.ofString "__next__") hT F.slot_zip_next (wpAny_call_entry F.slot_zip_next hT F.entry_zip_next ?_ (F.args_zip_next_1 _))))
  exact zip3_item b1 b2 b3 hz hI hO i1 i2 i3 hl1 hl2 hl3 hx hy hu fun h' a1 a2 a3 a4 a5 a6 a7 a8 => wpAny_pure (q h' a1 a2 a3 a4 a5 a6 a7 a8)
theorem next3_end {Q : Option Value → Shared → Prop} (hh : A.handled = none) (b1 : l1 < n) (hz : IsZip s.heap (n + 5) (n + 3) (n + 4) .none) (hI : Tri s.heap (n + 3) (.ref n) (.ref (n + 1)) (.ref (n + 2)))
    (i1 : LI s.heap n l1 k) (hl1 : s.heap.IsList l1 xs) (hx : xs[k]? = none) (q : ∀ h', (∀ (d : Nat) o, d ≠ n + 5 → d ≠ n → s.heap.get? d = some o → h'.get? d = some o) → Q none { s with heap := h' }) : wpAny (model P w) A (pyNext (.ref (n + 5))) Q E s := by
  have hT : s.TypeIs (.ref (n + 5)) "zip" := ⟨_, hz, rfl⟩
  unfold pyNext
  refine wpAny_bind (wpAny_attempt (wpAny_callSpecial?_slot (name := Str.ofString "__next__") hT F.slot_zip_next (wpAny_call_entry F.slot_zip_next hT F.entry_zip_next ?_ (F.args_zip_next_1 _))))
  refine zip3_end hh b1 hz hI i1 hl1 hx fun h' e hk he => ?_
  obtain ⟨o, ho, hc⟩ := he
  exact wpAny_bind (wpAny_isInstance (T := "StopIteration") (b := true) ⟨o, ho, hc⟩ isSubtype_stop (wpAny_pure (q _ hk)))
end
/-- three lists side by side, the items in new tuples -/
def Itz3 (K : PySem.W.Frag) (a b c : Addr) : It :=
  ⟨fun i H => ∃ (xs ys zs : List V) (x y z : V), SqL K H a xs ∧ SqL K H b ys ∧ SqL K H c zs ∧ xs[i]? = some x ∧ ys[i]? = some y ∧ zs[i]? = some z,
    fun i H v H' => ∃ T x y z, v = .ref T ∧ H T = none ∧ H' = upd H T (.tup [x, y, z]) ∧ (∀ xs, SqL K H a xs → xs[i]? = some x) ∧ (∀ ys, SqL K H b ys → ys[i]? = some y) ∧ ∀ zs, SqL K H c zs → zs[i]? = some z,
    fun i H => ∃ xs : List V, SqL K H a xs ∧ xs.length ≤ i⟩
def St3 (n l1 l2 l3 : Nat) (i : Nat) (h : Heap) : Prop := IsZip h (n + 5) (n + 3) (n + 4) .none ∧ Tri h (n + 3) (.ref n) (.ref (n + 1)) (.ref (n + 2)) ∧ (∃ x y z, Tri h (n + 4) x y z) ∧ LI h n l1 i ∧ LI h (n + 1) l2 i ∧ LI h (n + 2) l3 i
theorem turn_zip3 {P : Program} {w : World} {K : PySem.W.Frag} {elts : List Expr} {kk : Nat} {tpos : Pos} {n l1 l2 l3 : Nat} (b1 : l1 < n) (b2 : l2 < n) (b3 : l3 < n) :
    Turn P w K (.Tuple elts kk tpos) (Itz3 K l1 l2 l3) [n + 5, n + 3, n + 4, n, n + 1, n + 2] (n + 5) (St3 n l1 l2 l3) where
  mem := by simp
  obj := fun i h st d hd => by
    obtain ⟨hz, hI, ⟨x, y, z, hO⟩, ⟨o1, e1, _, d1⟩, ⟨o2, e2, _, d2⟩, ⟨o3, e3, _, d3⟩⟩ := st
    simp only [List.mem_cons, List.not_mem_nil, or_false] at hd
    rcases hd with q | q | q | q | q | q <;> subst q
    · exact ⟨_, hz, fun v q => nomatch q⟩
    · exact ⟨_, hI, fun v q => nomatch q⟩
    · exact ⟨_, hO, fun v q => nomatch q⟩
    · exact ⟨o1, e1, fun v q => by rw [d1] at q; cases q⟩
    · exact ⟨o2, e2, fun v q => by rw [d2] at q; cases q⟩
    · exact ⟨o3, e3, fun v q => by rw [d3] at q; cases q⟩
  keep := fun i h h' st k => by
    obtain ⟨hz, hI, ⟨x, y, z, hO⟩, i1, i2, i3⟩ := st
    exact ⟨k _ (by simp) _ hz, k _ (by simp) _ hI, ⟨x, y, z, k _ (by simp) _ hO⟩, i1.at fun o q => k _ (by simp) o q, i2.at fun o q => k _ (by simp) o q, i3.at fun o q => k _ (by simp) o q⟩
  item := by
    intro X hP hw hK hc i pins s σ H E I hf st hg
    subst hP hw hK
    obtain ⟨hz, hI, ⟨x0, y0, z0, hO⟩, i1, i2, i3⟩ := st
    obtain ⟨xs, ys, zs, x, y, z, qx, qy, qz, hx, hy, hzz⟩ := hg
    obtain ⟨us1, r1, p1, _⟩ := I.list qx
    obtain ⟨us2, r2, p2, _⟩ := I.list qy
    obtain ⟨us3, r3, p3, _⟩ := I.list qz
    obtain ⟨u1, e1, ru1⟩ := r1.get hx
    obtain ⟨u2, e2, ru2⟩ := r2.get hy
    obtain ⟨u3, e3, ru3⟩ := r3.get hzz
    have hlt : n + 5 < s.heap.objs.size := Heap.lt_size hz
    refine next3_item b1 b2 b3 hz hI hO i1 i2 i3 p1.isList p2.isList p3.isList (x := u1) (y := u2) (u := u3) (by simpa using e1) (by simpa using e2) (by simpa using e3) fun h' z' O' i1' i2' i3' hT hsz hk => ?_
    refine ⟨_, rfl, wpAny_letOwnedTupleGo_zip (s := { s with heap := h' }) z' fun h'' z'' sb => ?_⟩
    have hT2 : h''.get? s.heap.objs.size = some { cls := .type "tuple", data := .seq #[u1, u2, u3] } := (sb.2 _ (Nat.ne_of_gt hlt)).trans hT
    have new : ObjOk X.prog X.w (upd H s.heap.objs.size (.tup [x, y, z])) h'' s.heap.objs.size (.tup [x, y, z]) :=
      ⟨by show 3 ≤ sizeLine; decide, [u1, u2, u3], .cons ru1 (.cons ru2 (.cons ru3 .nil)), ⟨_, hT2, rfl, _, rfl⟩⟩
    have J : Inv X pins σ (upd H s.heap.objs.size (.tup [x, y, z])) { s with heap := h'' } :=
      I.turnedNew (t' := s.toks) (ch := [n + 5, n + 3, n + 4, n, n + 1, n + 2]) (fun d o hb q => by
        simp only [List.mem_cons, List.not_mem_nil, or_false, not_or] at hb
        exact (sb.2 d hb.1).trans (hk d o hb.1 hb.2.2.1 hb.2.2.2.1 hb.2.2.2.2.1 hb.2.2.2.2.2 q)) hf (Nat.le_refl _) new
    refine ⟨.ref s.heap.objs.size, _, J, rfl, ⟨_, x, y, z, rfl, I.hok.fresh (Nat.le_refl _), rfl, fun l hl => by rw [I.list_inj hl qx]; exact hx, fun l hl => by rw [I.list_inj hl qy]; exact hy, fun l hl => by rw [I.list_inj hl qz]; exact hzz⟩, ⟨z'', ?_, ⟨u1, u2, u3, ?_⟩, ?_, ?_, ?_⟩, fun d hd => ?_⟩
    · exact (sb.2 _ (show n + 3 ≠ n + 5 by omega)).trans (hk _ _ (by omega) (by omega) (by omega) (by omega) (by omega) hI)
    · exact (sb.2 _ (show n + 4 ≠ n + 5 by omega)).trans O'
    · exact i1'.at fun o q => (sb.2 _ (show n ≠ n + 5 by omega)).trans q
    · exact i2'.at fun o q => (sb.2 _ (show n + 1 ≠ n + 5 by omega)).trans q
    · exact i3'.at fun o q => (sb.2 _ (show n + 2 ≠ n + 5 by omega)).trans q
    · have hdl : d < s.heap.objs.size := by
        simp only [List.mem_cons, List.not_mem_nil, or_false] at hd
        rcases hd with q | q | q | q | q | q <;> subst q <;> first | exact hlt | exact Nat.lt_of_le_of_lt (by omega) hlt
      rw [upd_ne (Nat.ne_of_lt hdl)]
      exact (hf d hd).1
  done := by
    intro X hP hw hK hc i pins s σ H E I hf st hg
    subst hP hw hK
    obtain ⟨hz, hI, _, i1, _, _⟩ := st
    obtain ⟨xs, qx, hend⟩ := hg
    obtain ⟨us1, r1, p1, _⟩ := I.list qx
    have hl := r1.length
    refine next3_end (I.ok.hd hc) b1 hz hI i1 p1.isList (by simp; omega) fun h' hk => ⟨rfl, I.turnedL (t' := s.toks) (ch := [n + 5, n + 3, n + 4, n, n + 1, n + 2]) (fun d o hb q => ?_) hf⟩
    simp only [List.mem_cons, List.not_mem_nil, or_false, not_or] at hb
    exact hk d o hb.1 hb.2.2.2.1 q
  self := fun A i s Q E st h => wpAny_pyIter_zip st.1 h
def iZip3 (K : PySem.W.Frag) (ta : TA) : TI := fun σ H R => ta σ H fun vs H1 => ∃ a b c xs ys zs, vs = [.ref a, .ref b, .ref c] ∧ SqL K H1 a xs ∧ SqL K H1 b ys ∧ SqL K H1 c zs ∧ R (Itz3 K a b c) H1
theorem pi_zip3 {X : Cx} {e e2 e3 : Expr} {ta : TA} {p pos tpos : Pos} {elts : List Expr} {kk : Nat} (hg : Gl X "zip") (hm : X.mg "zip" = none) (ha : PA X [e, e2, e3] ta)
    (hs : starEach [e, e2, e3] X.env = (false, eval e X.env) :: starEach [e2, e3] X.env := by rfl) (hpl : (backTo pos (starEach [e2, e3] X.env)).any (·.1) = false := by rfl) :
    PI X (.Tuple elts kk tpos) (.Call (.Name "zip" p) [e, e2, e3] [] pos) (iZip3 X.K ta) := by
  constructor
  intro pins s σ H R I h
  refine Call_ (ld_blt I hg hm PyProof.Rows.boot_zip (PyProof.Rows.callWith_type1 (thn (ha.run pos pins s σ H _ I h) fun us s1 ⟨vs, H1, I1, r1, q1⟩ => ?_) hs hpl))
  obtain ⟨a, b, c, xs, ys, zs, ex, qx, qy, qz, q⟩ := q1
  subst ex
  have hus : us = [.ref a, .ref b, .ref c] := by
    cases r1 with
    | cons r rr =>
      cases rr with
      | cons r' rr =>
        cases rr with
        | cons r'' rr =>
          cases rr
          cases r
          cases r'
          cases r''
          rfl
  subst hus
  obtain ⟨us1, v1, p1, _⟩ := I1.list qx
  obtain ⟨us2, v2, p2, _⟩ := I1.list qy
  obtain ⟨us3, v3, p3, _⟩ := I1.list qz
  refine call_zip3 p1.isList p2.isList p3.isList fun h' hz hI hO i1 i2 i3 hsz hk => wpAny_pyIter_zip hz ?_
  have J : Inv X pins σ H1 { s1 with heap := h' } := I1.kept (t' := s1.toks) hk
  refine ⟨s1.heap.objs.size + 5, _, _, _, H1, rfl, J, turn_zip3 (n := s1.heap.objs.size) p1.lt p2.lt p3.lt, ⟨hz, hI, ⟨_, _, _, hO⟩, i1, i2, i3⟩, fun d hd => ?_, q⟩
  have hle : s1.heap.objs.size ≤ d := by
    simp only [List.mem_cons, List.not_mem_nil, or_false] at hd
    rcases hd with z | z | z | z | z | z <;> subst z <;> first | exact Nat.le_refl _ | exact Nat.le_add_right _ _
  exact I1.fpOk hle (I1.hok.fresh hle)
section
variable {K : PySem.W.Frag} {σ : L2.St} {H H' : Hp} {D : Ends} {tu tz : TS}
/-- for x, y, z in zip(..), three lists of one length -/
theorem s_forZ3 {tas : TA} {j1 j2 j3 : Nat} {a b c : Addr} {xs ys zs : List V} (h : EvA tas σ H [.ref a, .ref b, .ref c]) (hx : SqL K H a xs) (hy : SqL K H b ys) (hz : SqL K H c zs) (hn : xs.length = ys.length) (hn2 : xs.length = zs.length) (Pv : Nat → L2.St → Hp → Prop) (h0 : ∀ H1, Ex H H1 → Pv 0 σ H1) (up : ∀ i σ' H1 H2, Pv i σ' H1 → Ex H1 H2 → Pv i σ' H2)
    (hl : ∀ i σ' H', i ≤ xs.length → Pv i σ' H' → SqL K H' a xs ∧ SqL K H' b ys ∧ SqL K H' c zs)
    (hs : ∀ i x y z σ' H', xs[i]? = some x → ys[i]? = some y → zs[i]? = some z → Pv i σ' H' → tu { D with nx := Pv (i + 1), ct := Pv (i + 1), bk := D.nx } (((σ'.set j1 (some x)).set j2 (some y)).set j3 (some z)) H') (hd : ∀ σ' H', Pv xs.length σ' H' → D.nx σ' H') :
    tFor (iZip3 K tas) (gTup K 3 (gCons (gName j1) (gCons (gName j2) (gCons (gName j3) gNil)))) tu D σ H := h H (Ex.refl H) _ fun H1 e1 => by
  refine ⟨a, b, c, xs, ys, zs, rfl, ex_l e1 hx, ex_l e1 hy, ex_l e1 hz, ?_⟩
  have wk : Walk (Itz3 K a b c) xs.length (fun H => SqL K H a xs ∧ SqL K H b ys ∧ SqL K H c zs) (fun i H v H' => ∃ T x y z, v = .ref T ∧ H T = none ∧ H' = upd H T (.tup [x, y, z]) ∧ xs[i]? = some x ∧ ys[i]? = some y ∧ zs[i]? = some z) := by
    refine ⟨fun i H hi q => ⟨xs, ys, zs, xs[i], ys[i], zs[i], q.1, q.2.1, q.2.2, List.getElem?_eq_getElem hi, List.getElem?_eq_getElem (by omega), List.getElem?_eq_getElem (by omega)⟩, fun H q => ⟨xs, q.1, Nat.le_refl _⟩, fun i H v H' _ q y => ?_⟩
    obtain ⟨T, x, y, z, h1, h2, h3, h4, h5, h6⟩ := y
    exact ⟨T, x, y, z, h1, h2, h3, h4 xs q.1, h5 ys q.2.1, h6 zs q.2.2⟩
  refine for_it wk Pv (h0 H1 e1) hl (fun i v σ2 H2 H3 hi p y => ?_) hd
  obtain ⟨T, x, y, z, rfl, hT, rfl, h1, h2, h3⟩ := y
  exact ⟨T, [x, y, z], rfl, st_of upd_same, rfl, x, [y, z], rfl, y, [z], rfl, z, [], rfl, rfl, hs i x y z σ2 _ h1 h2 h3 (up i σ2 H2 _ p (Ex.new hT))⟩
/-- arguments told by a word: the walk as if they were given -/
theorem s_forZP {tas : TA} {g : TG} {PA : List V → Hp → Prop} (h : EvAP tas σ H PA) (k : ∀ vs H1, Ex H H1 → PA vs H1 → ∀ tas', EvA tas' σ H1 vs → tFor (iZip K tas') g tu D σ H1) : tFor (iZip K tas) g tu D σ H :=
  h H (Ex.refl H) _ fun vs H1 e1 hP => k vs H1 e1 hP (fun σ H Q => Q vs H) fun H2 _ Q2 q2 => q2 H2 (Ex.refl H2)
theorem s_forZ3P {tas : TA} {g : TG} {PA : List V → Hp → Prop} (h : EvAP tas σ H PA) (k : ∀ vs H1, Ex H H1 → PA vs H1 → ∀ tas', EvA tas' σ H1 vs → tFor (iZip3 K tas') g tu D σ H1) : tFor (iZip3 K tas) g tu D σ H :=
  h H (Ex.refl H) _ fun vs H1 e1 hP => k vs H1 e1 hP (fun σ H Q => Q vs H) fun H2 _ Q2 q2 => q2 H2 (Ex.refl H2)
theorem q_forZP {tas : TA} {g : TG} {PA : List V → Hp → Prop} (h : EvAP tas σ H PA) (k : ∀ vs H1, Ex H H1 → PA vs H1 → ∀ tas', EvA tas' σ H1 vs → tSeq (tFor (iZip K tas') g tu) tz D σ H1) : tSeq (tFor (iZip K tas) g tu) tz D σ H := s_forZP (D := { D with nx := tz D }) h k
theorem q_forZ3P {tas : TA} {g : TG} {PA : List V → Hp → Prop} (h : EvAP tas σ H PA) (k : ∀ vs H1, Ex H H1 → PA vs H1 → ∀ tas', EvA tas' σ H1 vs → tSeq (tFor (iZip3 K tas') g tu) tz D σ H1) : tSeq (tFor (iZip3 K tas) g tu) tz D σ H := s_forZ3P (D := { D with nx := tz D }) h k
theorem q_forZ3 {tas : TA} {j1 j2 j3 : Nat} {a b c : Addr} {xs ys zs : List V} (h : EvA tas σ H [.ref a, .ref b, .ref c]) (hx : SqL K H a xs) (hy : SqL K H b ys) (hz : SqL K H c zs) (hn : xs.length = ys.length) (hn2 : xs.length = zs.length) (Pv : Nat → L2.St → Hp → Prop) (h0 : ∀ H1, Ex H H1 → Pv 0 σ H1) (up : ∀ i σ' H1 H2, Pv i σ' H1 → Ex H1 H2 → Pv i σ' H2)
    (hl : ∀ i σ' H', i ≤ xs.length → Pv i σ' H' → SqL K H' a xs ∧ SqL K H' b ys ∧ SqL K H' c zs)
    (hs : ∀ i x y z σ' H', xs[i]? = some x → ys[i]? = some y → zs[i]? = some z → Pv i σ' H' → tu { D with nx := Pv (i + 1), ct := Pv (i + 1), bk := tz D } (((σ'.set j1 (some x)).set j2 (some y)).set j3 (some z)) H') (hd : ∀ σ' H', Pv xs.length σ' H' → tz D σ' H') :
    tSeq (tFor (iZip3 K tas) (gTup K 3 (gCons (gName j1) (gCons (gName j2) (gCons (gName j3) gNil)))) tu) tz D σ H := s_forZ3 (D := { D with nx := tz D }) h hx hy hz hn hn2 Pv h0 up hl hs hd
end
end Tc
namespace Tc
/-! ## Mathematics: preferences -/
theorem nodup_len {l l2 : List Nat} (nd : l.Nodup) (h : ∀ x ∈ l, x ∈ l2) : l.length ≤ l2.length := by
  induction l generalizing l2 with
  | nil => exact Nat.zero_le _
  | cons x l ih =>
    rw [List.nodup_cons] at nd
    have hx := h x (List.mem_cons_self ..)
    have h2 := ih (l2 := l2.erase x) nd.2 fun y hy => (List.mem_erase_of_ne (show y ≠ x from fun e => nd.1 (by rw [← e]; exact hy))).mpr (h y (List.mem_cons_of_mem _ hy))
    rw [List.length_erase_of_mem hx] at h2
    have := List.length_pos_of_mem hx
    rw [List.length_cons]
    omega
theorem pigeon {l : List Nat} {k : Nat} (nd : l.Nodup) (hl : l.length = k) (hb : ∀ x ∈ l, x < k) {a : Nat} (ha : a < k) : a ∈ l := by
  by_cases h : a ∈ l
  · exact h
  · exfalso
    have h2 := nodup_len (l2 := (List.range k).erase a) nd fun x hx => (List.mem_erase_of_ne (show x ≠ a from fun e => h (by rw [← e]; exact hx))).mpr (List.mem_range.mpr (hb x hx))
    rw [List.length_erase_of_mem (List.mem_range.mpr ha), List.length_range] at h2
    omega
theorem pref_iff {k : Nat} {l : List Nat} : Su193.isPreference k l = true ↔ l.length = k ∧ l.Nodup ∧ ∀ x ∈ l, x < k := by
  unfold Su193.isPreference
  rw [Bool.and_eq_true, Bool.and_eq_true, List.all_eq_true, beq_iff_eq, decide_eq_true_iff]
  simp
theorem pref_perm {k : Nat} {l : List Nat} (h : Su193.isPreference k l = true) : l.Perm (List.range k) := by
  obtain ⟨h1, h2, h3⟩ := pref_iff.mp h
  rw [List.perm_iff_count]
  intro a
  rw [h2.count, List.nodup_range.count]
  by_cases ha : a < k
  · rw [if_pos (pigeon h2 h1 h3 ha), if_pos (List.mem_range.mpr ha)]
  · rw [if_neg fun hm => ha (h3 a hm), if_neg fun hm => ha (List.mem_range.mp hm)]
theorem sort_range {k : Nat} {l : List Nat} : Su193.sort l = List.range k ↔ Su193.isPreference k l = true := by
  constructor
  · intro h
    have hp := (sort_perm l).symm
    rw [h] at hp
    refine pref_iff.mpr ⟨by rw [hp.length_eq, List.length_range], (hp.nodup_iff).mpr List.nodup_range, fun x hx => List.mem_range.mp (hp.mem_iff.mp hx)⟩
  · intro h
    exact (sorted_is (pref_perm h).symm (List.pairwise_lt_range.imp fun h => Nat.le_of_lt h)).symm
theorem pref_mem {k : Nat} {l : List Nat} (h : Su193.isPreference k l = true) {x : Nat} (hx : x < k) : x ∈ l := (pref_perm h).mem_iff.mpr (List.mem_range.mpr hx)
theorem pref_lt {k : Nat} {l : List Nat} (h : Su193.isPreference k l = true) {x : Nat} (hx : x ∈ l) : x < k := (pref_iff.mp h).2.2 x hx
theorem pref_len {k : Nat} {l : List Nat} (h : Su193.isPreference k l = true) : l.length = k := (pref_iff.mp h).1
theorem idx_inj {l : List Nat} {x y : Nat} (hx : x ∈ l) (h : l.idxOf x = l.idxOf y) : x = y := by
  have hlt := List.idxOf_lt_length_of_mem hx
  have h1 : l[l.idxOf x] = x := List.getElem_idxOf hlt
  have h2 : l[l.idxOf y]'(by omega) = y := List.getElem_idxOf (by omega)
  rw [← h1, ← h2]
  congr 1
theorem prefers_not {l : List Nat} {x y : Nat} (hx : x ∈ l) (hxy : x ≠ y) : Su193.prefers l x y = !Su193.prefers l y x := by
  unfold Su193.prefers
  have hne : l.idxOf x ≠ l.idxOf y := fun h => hxy (idx_inj hx h)
  by_cases h : l.idxOf x < l.idxOf y
  · rw [decide_eq_true h, decide_eq_false (by omega)]
    rfl
  · rw [decide_eq_false h, decide_eq_true (by omega)]
    rfl
def okPk (l : List Nat) (m lo hi : Nat) : Bool := Su193.prefers l m lo || Su193.prefers l m hi
theorem peak_iff {k : Nat} {l : List Nat} (h : Su193.isPreference k l = true) : Su193.isSinglePeaked k l = true ↔ ∀ m lo hi, lo < m → m < hi → hi < k → okPk l m lo hi = true := by
  unfold Su193.isSinglePeaked
  have key : ∀ m lo hi, lo < m → m < hi → hi < k → okPk l m lo hi = !(Su193.prefers l lo m && Su193.prefers l hi m) := fun m lo hi h1 h2 h3 => by
    unfold okPk
    rw [prefers_not (pref_mem h (by omega)) (show m ≠ lo by omega), prefers_not (pref_mem h (by omega)) (show m ≠ hi by omega), Bool.not_and]
  constructor
  · intro hs m lo hi h1 h2 h3
    rw [key m lo hi h1 h2 h3]
    have a1 := List.all_eq_true.mp hs lo (List.mem_range.mpr (by omega))
    have a2 := List.all_eq_true.mp a1 m (List.mem_range.mpr (by omega))
    have a3 := List.all_eq_true.mp a2 hi (List.mem_range.mpr h3)
    rw [decide_eq_true h1, decide_eq_true h2] at a3
    simpa using a3
  · intro ho
    refine List.all_eq_true.mpr fun lo hlo => List.all_eq_true.mpr fun m hm => List.all_eq_true.mpr fun hi hhi => ?_
    by_cases h1 : lo < m
    · by_cases h2 : m < hi
      · have := ho m lo hi h1 h2 (List.mem_range.mp hhi)
        rw [key m lo hi h1 h2 (List.mem_range.mp hhi)] at this
        rw [this, Bool.or_true]
      · rw [decide_eq_false h2, Bool.and_false]
        rfl
    · rw [decide_eq_false h1]
      rfl
end Tc
namespace Tc
open PySem PySem.Spec PyProof.Rows L2 Evl
open Su193 (SocialChoice)
variable {P : Program} {w : World} {K : PySem.W.Frag} {mg : Str → Option Value} {base : Heap}

/-! ### prefers -/
abbrev s_prefers : Stmt := topS 11
theorem sc_prefers : FnScope ["ranking", "one", "other"] ["ranking", "one", "other"] (C8.fnScope (topS 11)) := C8.fnScope_by (by decide +kernel)
def sp_prefers : Sp := fun vs H Q _ => ∃ (p : Addr) (l : List Nat) (a c : Nat), vs = [.ref p, nv a, nv c] ∧ H p = some (.lst (nvs l)) ∧ a ∈ l ∧ c ∈ l ∧ RetV (.bl (Su193.prefers l a c)) H Q
theorem cal_prefers (T : Txt K mg) {f : Addr} {fd : FuncData} (F : C8.Def K mg "prefers" s_prefers f fd) (b : Binds K fd ["ranking", "one", "other"] []) : C8.Cal P w K mg base 1 "prefers" sp_prefers [] := by
  refine C8.cal0 F b .nil sc_prefers (fun vs H Q E h => ?_) (fun cdv A outer s H vs Q E hr h => ⟨_, (pss_one (ps_ret (pe_cmpR op_lt (pe_bm PySem.F.plainAttrs_list PySem.F.slot_list_index PySem.F.type_list_index mt_index (pv 0) (pa_cons (pv 1) pa_nil)) (pe_bm PySem.F.plainAttrs_list PySem.F.slot_list_index PySem.F.type_list_index mt_index (pv 0) (pa_cons (pv 2) pa_nil)) (nomark _)))), ?_⟩)
  · obtain ⟨p, l, a, c, rfl, _⟩ := h
    rfl
  · obtain ⟨p, l, a, c, rfl, hp, ha, hc, q⟩ := h
    exact s_ret (v := .bl (Su193.prefers l a c)) (ev_lt (ev_index (ev_var rfl) (ev_var rfl) hp ha) (ev_index (ev_var rfl) (ev_var rfl) hp hc)) fun H1 e => q H1 e

/-! ### mask_of -/
def maskL (l : List Nat) : Nat := l.foldl (fun m x => m ||| 1 * 2 ^ x) 0
theorem maskL_more {l : List Nat} {i x : Nat} (h : l[i]? = some x) : maskL (l.take (i + 1)) = maskL (l.take i) ||| 1 * 2 ^ x := by
  unfold maskL
  rw [take_more h, List.foldl_append]
  rfl
theorem nvs_get {l : List Nat} {i : Nat} {v : V} (h : (nvs l)[i]? = some v) : ∃ x, l[i]? = some x ∧ v = nv x := by
  rw [List.getElem?_map] at h
  cases e : l[i]? with
  | none =>
    rw [e] at h
    cases h
  | some x =>
    rw [e] at h
    cases h
    exact ⟨x, rfl, rfl⟩
theorem rfs_get {l : List Addr} {i : Nat} {v : V} (h : (rfs l)[i]? = some v) : ∃ x, l[i]? = some x ∧ v = .ref x := by
  rw [List.getElem?_map] at h
  cases e : l[i]? with
  | none =>
    rw [e] at h
    cases h
  | some x =>
    rw [e] at h
    cases h
    exact ⟨x, rfl, rfl⟩
theorem nvs_at {l : List Nat} {i x : Nat} (h : l[i]? = some x) : (nvs l)[i]? = some (nv x) := by
  rw [List.getElem?_map, h]
  rfl
theorem rfs_at {l : List Addr} {i : Nat} {x : Addr} (h : l[i]? = some x) : (rfs l)[i]? = some (.ref x) := by
  rw [List.getElem?_map, h]
  rfl
abbrev s_mask_of : Stmt := topS 14
theorem sc_mask_of : FnScope ["alternatives", "mask", "alternative"] ["alternatives"] (C8.fnScope (topS 14)) := C8.fnScope_by (by decide +kernel)
def sp_mask_of : Sp := fun vs H Q _ => ∃ (p : Addr) (l : List Nat), vs = [.ref p] ∧ H p = some (.lst (nvs l)) ∧ (∀ x ∈ l, x ≤ 1000) ∧ RetV (nv (maskL l)) H Q
theorem cal_mask_of (T : Txt K mg) {f : Addr} {fd : FuncData} (F : C8.Def K mg "mask_of" s_mask_of f fd) (b : Binds K fd ["alternatives"] []) : C8.Cal P w K mg base 1 "mask_of" sp_mask_of [] := by
  refine C8.cal0 F b .nil sc_mask_of (fun vs H Q E h => ?_) (fun cdv A outer s H vs Q E hr h => ⟨_, (pss_cons (ps_set (i := 1) sc_mask_of.nd rfl (Or.inl rfl) pe_int)
  (pss_cons (ps_for PassesOwn.never rfl (pi_list (pv 0)) (pg_name (i := 2) sc_mask_of.nd rfl (Or.inl rfl))
  (pss_one (ps_aug (i := 1) sc_mask_of.nd rfl (Or.inl rfl) (pe_op op_shl pe_int (pv 2)) ip_or)))
  (pss_one (ps_ret (pv 1))))), ?_⟩)
  · obtain ⟨p, l, rfl, _⟩ := h
    rfl
  · obtain ⟨p, l, rfl, hp, hb, q⟩ := h
    refine q_asg (v := nv 0) ev_c fun H1 e1 => ?_
    refine q_forLn (a := p) (xs := nvs l) (ev_var rfl) (sq_of (e1 p _ hp)) (fun i σ' H' => Ex H H' ∧ ∃ v : Option V, σ' = [some (.ref p), some (nv (maskL (l.take i))), v]) (fun H2 e2 => ⟨e1.trans e2, none, rfl⟩) (fun i σ' H' _ z => sq_of (z.1 p _ hp)) ?_ ?_
    · rintro i x σ' H' hi ⟨e2, v, rfl⟩
      obtain ⟨n, hn, rfl⟩ := nvs_get hi
      have hn1 := hb n (List.mem_of_getElem? hn)
      refine s_aug (a := ((maskL (l.take i) : Nat) : Int)) (b := ((1 * 2 ^ n : Nat) : Int)) rfl (ev_shl (a := 1) (b := n) ev_c (ev_var rfl) (by decide) (by omega)) fun H3 e3 => ⟨e2.trans e3, some (nv n), ?_⟩
      rw [or_nat, maskL_more hn]
      rfl
    · rintro σ' H' ⟨e2, v, rfl⟩
      rw [List.length_map, List.take_length]
      exact s_ret (ev_var rfl) fun H3 e3 => q H3 (e2.trans e3)

/-! ### is_ranking -/
theorem dp_nvs {H : Hp} : ∀ l : List Nat, DpAll K H (nvs l) (l.map fun n : Nat => PyData.int (n : Int))
  | [] => .nil
  | n :: l => .cons (.int (n : Int)) (dp_nvs l)
def dN (l : List Nat) : PyData := .list (l.map fun n : Nat => PyData.int (n : Int))
theorem eqv_nats : ∀ a c : List Nat, PyData.eqv (.list (a.map fun n : Nat => PyData.int (n : Int))) (.list (c.map fun n : Nat => PyData.int (n : Int))) = decide (a = c)
  | [], [] => rfl
  | [], _ :: _ => rfl
  | _ :: _, [] => rfl
  | x :: a, y :: c => by
    have ih := eqv_nats a c
    have ih' : PyData.eqvAll (a.map fun n : Nat => PyData.int (n : Int)) (c.map fun n : Nat => PyData.int (n : Int)) = decide (a = c) := ih
    show ((x : Int) == (y : Int) && PyData.eqvAll (a.map fun n : Nat => PyData.int (n : Int)) (c.map fun n : Nat => PyData.int (n : Int))) = _
    rw [ih']
    by_cases h : x = y
    · subst h
      simp
    · have h2 : ((x : Int) == (y : Int)) = false := by
        rw [beq_eq_false_iff_ne]
        omega
      rw [h2, Bool.false_and]
      exact (decide_eq_false fun e => h (List.cons.inj e).1).symm
theorem canLay_nats : ∀ l : List Nat, PyData.canLayAll0 (l.map fun n : Nat => PyData.int (n : Int)) = true
  | [] => rfl
  | _ :: l => canLay_nats l
theorem depth_nats : ∀ l : List Nat, PyData.depthAll (l.map fun n : Nat => PyData.int (n : Int)) = 0
  | [] => rfl
  | _ :: l => by
    show max 0 (PyData.depthAll (l.map fun n : Nat => PyData.int (n : Int))) = 0
    rw [depth_nats l]
    rfl
theorem shaped_nats (l : List Nat) : SeqAt.shaped (.list (l.map fun n : Nat => PyData.int (n : Int))) = true := by
  unfold SeqAt.shaped
  rw [Bool.and_eq_true]
  refine ⟨canLay_nats l, decide_eq_true ?_⟩
  show PyData.depthAll (l.map fun n : Nat => PyData.int (n : Int)) + 1 ≤ 64
  rw [depth_nats]
  decide
theorem rv_eqL {H : Hp} {p q : Addr} {l m : List Nat} (hp : H p = some (.lst (nvs l))) (hq : H q = some (.lst (nvs m))) : RV (rEqD K) (.ref p) (.ref q) H (.bl (decide (l = m))) := fun H1 e Q k =>
  ⟨_, _, .lst (sq_of (e p _ hp)) (dp_nvs l), .lst (sq_of (e q _ hq)) (dp_nvs m), shaped_nats l, shaped_nats m, by
    rw [eqv_nats]
    exact k H1 (Ex.refl H1)⟩
abbrev s_is_ranking : Stmt := topS 9
theorem sc_is_ranking : FnScope ["row", "alternative_count"] ["row", "alternative_count"] (C8.fnScope (topS 9)) := C8.fnScope_by (by decide +kernel)
def sp_is_ranking : Sp := fun vs H Q _ => ∃ (p : Addr) (l : List Nat) (k : Nat), vs = [.ref p, nv k] ∧ H p = some (.lst (nvs l)) ∧ l.length < 64 ∧ k ≤ 1000 ∧ RetV (.bl (Su193.isPreference k l)) H Q
theorem cal_is_ranking (T : Txt K mg) {f : Addr} {fd : FuncData} (F : C8.Def K mg "is_ranking" s_is_ranking f fd) (b : Binds K fd ["row", "alternative_count"] []) : C8.Cal P w K mg base 1 "is_ranking" sp_is_ranking [] := by
  refine C8.cal0 F b .nil sc_is_ranking (fun vs H Q E h => ?_) (fun cdv A outer s H vs Q E hr h => ⟨_, (pss_one (ps_ret (pe_cmpR (op_eqD hr.units) (pe_callB cr_sorted (by rfl) T.sorted (by decide +kernel) (pa_cons (pv 0) pa_nil)) (pe_listRg rfl (by rfl) T.list (prg_1 (by rfl) T.range (pv 1))) (nomark _)))), ?_⟩)
  · obtain ⟨p, l, k, rfl, _⟩ := h
    rfl
  · obtain ⟨p, l, k, rfl, hp, hl, hk, q⟩ := h
    refine s_ret (v := .bl (Su193.isPreference k l)) (ev_is (v := .bl (decide (Su193.sort l = List.range k))) (ev_opLL (el_sorted (fun H1 e Q q => ⟨_, rfl, q _ H1 (Ex.refl H1) ⟨p, rfl, e p _ hp⟩⟩) hl) (el_listRg (ev_var rfl) hk) fun p1 q1 H1 h1 h2 e1 => rv_eqL h1 h2) ?_) fun H1 e => q H1 e
    congr 1
    rw [Bool.eq_iff_iff, decide_eq_true_iff]
    exact sort_range

/-! ### lowest_with_most -/
def lowMost (l : List Nat) : Nat := l.idxOf (mx l)
abbrev s_lowest_with_most : Stmt := topS 34
theorem sc_lowest_with_most : FnScope ["scores"] ["scores"] (C8.fnScope (topS 34)) := C8.fnScope_by (by decide +kernel)
def sp_lowest_with_most : Sp := fun vs H Q _ => ∃ (p : Addr) (l : List Nat), vs = [.ref p] ∧ H p = some (.lst (nvs l)) ∧ l ≠ [] ∧ RetV (nv (lowMost l)) H Q
theorem cal_lowest_with_most (T : Txt K mg) {f : Addr} {fd : FuncData} (F : C8.Def K mg "lowest_with_most" s_lowest_with_most f fd) (b : Binds K fd ["scores"] []) : C8.Cal P w K mg base 1 "lowest_with_most" sp_lowest_with_most [] := by
  refine C8.cal0 F b .nil sc_lowest_with_most (fun vs H Q E h => ?_) (fun cdv A outer s H vs Q E hr h => ⟨_, (pss_one (ps_ret (pe_bm PySem.F.plainAttrs_list PySem.F.slot_list_index PySem.F.type_list_index mt_index (pv 0) (pa_cons (pe_callB (cr_max rfl) (by rfl) T.max (by decide +kernel) (pa_cons (pv 0) pa_nil)) pa_nil)))), ?_⟩)
  · obtain ⟨p, l, rfl, _⟩ := h
    rfl
  · obtain ⟨p, l, rfl, hp, hl, q⟩ := h
    exact s_ret (ev_index (ev_var rfl) (ev_max (ev_var rfl) hp hl) hp (mx_in hl)) fun H1 e => q H1 e

/-! ### the rules: the rankings that the agents report, a list of lists -/
def LLN (H : Hp) (p : Addr) (rs : List (List Nat)) : Prop := LLV H p (rs.map nvs)
theorem LLN.mono {H H' : Hp} {p : Addr} {rs : List (List Nat)} (e : Ex H H') (h : LLN H p rs) : LLN H' p rs := LLV.mono e h
theorem LLN.list {H : Hp} {p : Addr} {rs : List (List Nat)} (h : LLN H p rs) : ∃ qs : List Addr, H p = some (.lst (rfs qs)) ∧ qs.length = rs.length ∧ ∀ (i : Nat) (q : Addr), qs[i]? = some q → ∃ r, rs[i]? = some r ∧ H q = some (.lst (nvs r)) := by
  obtain ⟨qs, h1, h2⟩ := h
  refine ⟨qs, h1, by rw [plen h2, List.length_map], fun i q hq => ?_⟩
  obtain ⟨b, hb, hb2⟩ := pget' h2 hq
  rw [List.getElem?_map] at hb
  cases e : rs[i]? with
  | none =>
    rw [e] at hb
    cases hb
  | some r =>
    rw [e] at hb
    cases hb
    exact ⟨r, rfl, hb2⟩
abbrev s_dictatorship : Stmt := topS 32
theorem sc_dictatorship : FnScope ["reported", "agent"] ["reported", "agent"] (C8.fnScope (topS 32)) := C8.fnScope_by (by decide +kernel)
def sp_dictatorship : Sp := fun vs H Q _ => ∃ (p : Addr) (rs : List (List Nat)) (i : Nat) (r : List Nat) (x : Nat), vs = [.ref p, nv i] ∧ LLN H p rs ∧ rs[i]? = some r ∧ r[0]? = some x ∧ RetV (nv x) H Q
theorem cal_dictatorship (T : Txt K mg) {f : Addr} {fd : FuncData} (F : C8.Def K mg "dictatorship" s_dictatorship f fd) (b : Binds K fd ["reported", "agent"] []) : C8.Cal P w K mg base 1 "dictatorship" sp_dictatorship [] := by
  refine C8.cal0 F b .nil sc_dictatorship (fun vs H Q E h => ?_) (fun cdv A outer s H vs Q E hr h => ⟨_, (pss_one (ps_ret (pe_ix ix_list (pe_ix ix_list (pv 0) (pv 1) (fun _ _ => rfl)) pe_int (fun _ _ => rfl)))), ?_⟩)
  · obtain ⟨p, rs, i, r, x, rfl, _⟩ := h
    rfl
  · obtain ⟨p, rs, i, r, x, rfl, hp, hi, hx, q⟩ := h
    obtain ⟨qs, h1, h2⟩ := hp
    obtain ⟨a, ha, hr⟩ := pget h2 (i := i) (b := nvs r) (by rw [List.getElem?_map, hi]; rfl)
    exact s_ret (ev_ix (i := 0) (ev_ix (ev_var rfl) (ev_var rfl) (sq_of h1) (rfs_at ha)) ev_c (sq_of hr) (nvs_at hx)) fun H1 e => q H1 e
abbrev s_generalized_median : Stmt := topS 33
theorem sc_generalized_median : FnScope ["reported", "phantoms", "ranking", "peaks"] ["reported", "phantoms"] (C8.fnScope (topS 33)) := C8.fnScope_by (by decide +kernel)
def sp_generalized_median : Sp := fun vs H Q _ => ∃ (p pp : Addr) (rs : List (List Nat)) (ph : List Nat), vs = [.ref p, .ref pp] ∧ LLN H p rs ∧ H pp = some (.lst (nvs ph)) ∧ (∀ r ∈ rs, r ≠ []) ∧ 0 < rs.length ∧ rs.length + ph.length < 64 ∧
  RetV (nv ((Su193.sort (rs.map Su193.peak ++ ph)).getD (rs.length - 1) 0)) H Q
theorem cal_generalized_median (T : Txt K mg) {f : Addr} {fd : FuncData} (F : C8.Def K mg "generalized_median" s_generalized_median f fd) (b : Binds K fd ["reported", "phantoms"] []) : C8.Cal P w K mg base 1 "generalized_median" sp_generalized_median [] := by
  refine C8.cal0 F b .nil sc_generalized_median (fun vs H Q E h => ?_) (fun cdv A outer s H vs Q E hr h => ⟨_, (pss_cons (ps_setLc (i := 3) rfl sc_generalized_median.nd rfl rfl (sw_true rfl rfl rfl (by decide +kernel)) (own := [("ranking", 2)]) (g := gName 2) (tt := tYes) (pi_list (pv 0)) (blkOk_by (own := [("ranking", 2)]) (N := ["reported", "phantoms", "ranking", "peaks"]) (sc := C8.fnScope (topS 33)) (by decide +kernel)) (fun _ _ _ _ _ => (pg_name (i := 2) sc_generalized_median.nd rfl (Or.inl rfl))) (fun _ _ _ _ _ => pts_nil) (fun _ _ _ _ _ => (pe_ix (ix_listK (K := K) rfl) (pv 2) pe_int (fun _ _ => rfl))))
  (pss_one (ps_ret (pe_ix ix_list (pe_callB cr_sorted (by rfl) T.sorted (by decide +kernel) (pa_cons (pe_op op_cat (pv 3) (pv 1)) pa_nil)) (pe_op op_sub (pe_callB call_len_seq (by rfl) T.len PySem.boot_len (pa_cons (pv 0) pa_nil)) pe_int) (fun _ _ => rfl))))), ?_⟩)
  · obtain ⟨p, pp, rs, ph, rfl, _⟩ := h
    rfl
  · obtain ⟨p, pp, rs, ph, rfl, hp, hpp, hne, h0, hl, q⟩ := h
    obtain ⟨qs, h1, h2, h3⟩ := hp.list
    have peak_at : ∀ r ∈ rs, r[0]? = some (Su193.peak r) := fun r hr => by
      have := hne r hr
      cases r with
      | nil => exact absurd rfl this
      | cons x r => rfl
    refine q_asgL (xs := rs.map fun r => nv (Su193.peak r)) (el_lcDm (ds := rs) (fun r => nv (Su193.peak r)) (ev_var rfl) (sq_of h1) (by rw [List.length_map]; omega) (by omega) (fun x => rfl) (fun i x d H1 e1 hx hd => ?_)) fun p1 H1 hp1 e1 hq1 => ?_
    · obtain ⟨a, ha, rfl⟩ := rfs_get hx
      obtain ⟨r, hr, hr2⟩ := h3 i a ha
      rw [hr] at hd
      cases hd
      exact ev_ix (i := 0) (ev_var rfl) ev_c (sq_of (e1 a _ hr2)) (nvs_at (peak_at _ (List.mem_of_getElem? hr)))
    have e3 : (rs.map fun r => nv (Su193.peak r)) = nvs (rs.map Su193.peak) := by
      rw [nvs, List.map_map]
      rfl
    rw [e3] at hq1
    have hlen : (Su193.sort (rs.map Su193.peak ++ ph)).length = rs.length + ph.length := by rw [(sort_perm _).length_eq, List.length_append, List.length_map]
    have hat : (Su193.sort (rs.map Su193.peak ++ ph))[rs.length - 1]? = some ((Su193.sort (rs.map Su193.peak ++ ph)).getD (rs.length - 1) 0) := by
      rw [List.getD_eq_getElem?_getD, List.getElem?_eq_getElem (by omega)]
      rfl
    have hs : EvL (tCB (rSorted K) (tCons (tOp rCat (tVar 3) (tVar 1)) tNil)) [some (.ref p), some (.ref pp), none, some (.ref p1)] H1 (nvs (Su193.sort (rs.map Su193.peak ++ ph))) := el_sorted (eap_L (xs := nvs (rs.map Su193.peak ++ ph)) (by
      have r := el_cat (σ := [some (.ref p), some (.ref pp), none, some (.ref p1)]) (ta := tVar 3) (tb := tVar 1) (ev_var rfl) (ev_var rfl) hq1 (e1 pp _ hpp) (by rw [List.length_map, List.length_map, List.length_map]; omega)
      rw [nvs, nvs, ← List.map_append] at r
      exact r) ea_nil) (by rw [List.length_append, List.length_map]; omega)
    refine s_ret (v := nv ((Su193.sort (rs.map Su193.peak ++ ph)).getD (rs.length - 1) 0)) (ev_opL1 hs (fun H2 e2 => ev_sub (a := rs.length) (b := 1) (ev_is (ev_lenL (ev_var rfl) ((e1.trans e2) p _ h1)) (by rw [List.length_map, h2])) ev_c (by omega)) fun z H2 hz e2 => rv_ixL (sq_of hz) (atI_nat (nvs_at hat))) fun H2 e2 => q H2 (e1.trans e2)
end Tc
namespace Tc
open PySem PySem.Spec PyProof.Rows L2 Evl
open Su193 (SocialChoice)
variable {P : Program} {w : World} {K : PySem.W.Frag} {mg : Str → Option Value} {base : Heap}

/-! ### every_choice -/
def choose {α : Type} (xss : List (List α)) : List (List α) := xss.foldl (fun ch ms => ch.flatMap fun b => ms.map fun x => b ++ [x]) [[]]
def Sm {α : Type} (xss : List (List α)) : Prop := xss.length ≤ 3 ∧ ∀ ms ∈ xss, ms.length ≤ 6
theorem choose_more {α : Type} {xss : List (List α)} {i : Nat} {ms : List α} (h : xss[i]? = some ms) : choose (xss.take (i + 1)) = (choose (xss.take i)).flatMap fun b => ms.map fun x => b ++ [x] := by
  unfold choose
  rw [take_more h, List.foldl_append]
  rfl
theorem flat_len {α β : Type} (l : List α) (ms : List β) {γ : Type} (f : α → β → γ) : (l.flatMap fun b => ms.map (f b)).length = l.length * ms.length := by
  induction l with
  | nil => simp
  | cons a l ih => rw [List.flatMap_cons, List.length_append, ih, List.length_map, List.length_cons, Nat.succ_mul, Nat.add_comm]
theorem choose_len {α : Type} {xss : List (List α)} (h : Sm xss) : ∀ i : Nat, i ≤ xss.length → (choose (xss.take i)).length ≤ 6 ^ i
  | 0, _ => by
    rw [List.take_zero]
    exact Nat.le_refl _
  | i + 1, hi => by
    have ih := choose_len h i (by omega)
    have hx : xss[i]? = some xss[i] := List.getElem?_eq_getElem (by omega)
    rw [choose_more hx, flat_len, Nat.pow_succ]
    exact Nat.mul_le_mul ih (h.2 _ (List.getElem_mem _))
theorem choose_216 {α : Type} {xss : List (List α)} (h : Sm xss) {i : Nat} (hi : i ≤ xss.length) : (choose (xss.take i)).length ≤ 216 := by
  have h1 := choose_len h i hi
  have h2 : i ≤ 3 := by have := h.1; omega
  have h3 : 6 ^ i ≤ 6 ^ 3 := Nat.pow_le_pow_right (by decide) h2
  omega
theorem choose_mem {α : Type} {xss : List (List α)} : ∀ i : Nat, i ≤ xss.length → ∀ b ∈ choose (xss.take i), b.length = i
  | 0, _, b, hb => by
    rw [List.take_zero] at hb
    have := List.mem_singleton.mp (show b ∈ [[]] from hb)
    rw [this]
    rfl
  | i + 1, hi, b, hb => by
    have hx : xss[i]? = some xss[i] := List.getElem?_eq_getElem (by omega)
    rw [choose_more hx] at hb
    obtain ⟨c, hc, hb2⟩ := List.mem_flatMap.mp hb
    obtain ⟨x, hx2, rfl⟩ := List.mem_map.mp hb2
    rw [List.length_append, choose_mem i (by omega) c hc]
    rfl
theorem ep_lst1 {σ : L2.St} {H : Hp} {te : TE} {xs : List V} (h : EvL te σ H xs) : EvP (tLst (tCons te tNil)) σ H (fun v H2 => ∃ c, v = .ref c ∧ LLV H2 c [xs]) := fun H1 e Q k =>
  h H1 e _ fun p H2 hp e2 h2 => ⟨sz_of (n := 1) (by decide), fun c hc => k _ _ (e2.trans (Ex.new hc)) ⟨c, rfl, [p], upd_same, .cons (by
    rw [upd_ne (ne_of_none h2 hc)]
    exact h2) .nil⟩⟩
theorem ep_lst1F {σ : L2.St} {H : Hp} {te : TE} {xs : List V} (h : EvL te σ H xs) : EvP (tLst (tCons te tNil)) σ H (fun v H2 => ∃ c, v = .ref c ∧ H c = none ∧ LLVF H H2 c [xs]) := fun H1 e Q k =>
  h H1 e _ fun p H2 hp e2 h2 => ⟨sz_of (n := 1) (by decide), fun c hc => k _ _ (e2.trans (Ex.new hc)) ⟨c, rfl, fresh_back (e.trans e2) hc, [p], upd_same, .cons (by
    rw [upd_ne (ne_of_none h2 hc)]
    exact h2) .nil, fun q hq => by
    rw [List.mem_singleton.mp hq]
    exact fresh_back e hp⟩⟩
abbrev s_every_choice : Stmt := topS 6
theorem sc_every_choice : FnScope ["lists", "choices", "members", "longer", "beginning", "member"] ["lists"] (C8.fnScope (topS 6)) := C8.fnScope_by (by decide +kernel)
def sp_every_choice : Sp := fun vs H Q _ => ∃ (p : Addr) (xss : List (List V)), vs = [.ref p] ∧ LLV H p xss ∧ Sm xss ∧ RetP (fun v H2 => ∃ c, v = .ref c ∧ LLV H2 c (choose xss)) H Q
theorem cal_every_choice (T : Txt K mg) {f : Addr} {fd : FuncData} (F : C8.Def K mg "every_choice" s_every_choice f fd) (b : Binds K fd ["lists"] []) : C8.Cal P w K mg base 1 "every_choice" sp_every_choice [] := by
  refine C8.cal0 F b .nil sc_every_choice (fun vs H Q E h => ?_) (fun cdv A outer s H vs Q E hr h => ⟨_, (pss_cons (ps_set (i := 1) sc_every_choice.nd rfl (Or.inl rfl) (pe_lst (pa_cons (pe_lst pa_nil) pa_nil)))
  (pss_cons (ps_for PassesOwn.never rfl (pi_list (pv 0)) (pg_name (i := 2) sc_every_choice.nd rfl (Or.inl rfl))
  (pss_cons (ps_set (i := 3) sc_every_choice.nd rfl (Or.inl rfl) (pe_lst pa_nil))
  (pss_cons (ps_for PassesOwn.never rfl (pi_list (pv 1)) (pg_name (i := 4) sc_every_choice.nd rfl (Or.inl rfl))
  (pss_one (ps_for PassesOwn.never rfl (pi_list (pv 2)) (pg_name (i := 5) sc_every_choice.nd rfl (Or.inl rfl))
  (pss_one (ps_expr (pe_bm PySem.F.plainAttrs_list PySem.F.slot_list_append PySem.F.type_list_append mt_append (pv 3) (pa_cons (pe_op op_cat (pv 4) (pe_lst (pa_cons (pv 5) pa_nil))) pa_nil)))))))
  (pss_one (ps_set (i := 1) sc_every_choice.nd rfl (Or.inl rfl) (pv 3))))))
  (pss_one (ps_ret (pv 1))))), ?_⟩)
  · obtain ⟨p, xss, rfl, _⟩ := h
    rfl
  · obtain ⟨p, xss, rfl, hp, hs, q⟩ := h
    obtain ⟨qs, hq1, hq2⟩ := hp
    have hql := plen hq2
    refine q_asgP (ep_lst1 (el_lst ea_nil (by decide))) fun v H1 e1 hv => ?_
    obtain ⟨c0, rfl, hc0⟩ := hv
    refine q_forLn (a := p) (xs := rfs qs) (ev_var rfl) (sq_of (e1 p _ hq1)) (fun i σ' H' => Ex H H' ∧ ∃ (c : Addr) (m l b x : Option V), σ' = [some (.ref p), some (.ref c), m, l, b, x] ∧ LLV H' c (choose (xss.take i))) (fun H2 e2 => ⟨e1.trans e2, c0, none, none, none, none, rfl, hc0.mono e2⟩) (fun i σ' H' _ z => sq_of (z.1 p _ hq1)) ?_ ?_
    · rintro i y σ' H' hi ⟨e, c, m, l, b, x, rfl, hc⟩
      obtain ⟨a, ha, rfl⟩ := rfs_get hi
      obtain ⟨ms, hms, hams⟩ := pget' hq2 ha
      have hil : i < xss.length := (List.getElem?_eq_some_iff.mp hms).1
      have hms6 : ms.length ≤ 6 := hs.2 _ (List.mem_of_getElem? hms)
      have h216 := choose_216 hs (i := i) (by omega)
      refine q_asgL (xs := []) (el_lst ea_nil (by decide)) fun pl H2 hpl e2 hl2 => ?_
      have hmem := choose_mem (xss := xss) i (by omega)
      have hmore := choose_more hms
      revert hc h216 hmem hmore
      generalize choose (xss.take i) = ch
      intro hc h216 hmem hmore
      obtain ⟨bs, hb1, hb2⟩ := hc
      have hbl := plen hb2
      refine q_forLn (a := c) (xs := rfs bs) (ev_var rfl) (sq_of (e2 c _ hb1)) (fun k σ2 H3 => Bld H' pl ((ch.take k).flatMap fun b => ms.map fun x => b ++ [x]) H3 ∧ ∃ b x : Option V, σ2 = [some (.ref p), some (.ref c), some (.ref a), some (.ref pl), b, x]) (fun H3 e3 => ⟨Bld.start hpl (e2.trans e3) (e3 pl _ hl2), b, x, rfl⟩) (fun k σ2 H3 _ z => sq_of (z.1.ex c _ hb1)) ?_ ?_
      · rintro k y σ2 H3 hk ⟨hbd, b, x, rfl⟩
        obtain ⟨d, hd, rfl⟩ := rfs_get hk
        obtain ⟨bb, hbb, hdb⟩ := pget' hb2 hd
        have hkl : k < ch.length := (List.getElem?_eq_some_iff.mp hbb).1
        have hbbl := hmem bb (List.mem_of_getElem? hbb)
        have h3 := hs.1
        have hfl : ((ch.take k).flatMap fun b => ms.map fun x => b ++ [x]).length ≤ 1296 := by
          rw [flat_len]
          refine Nat.le_trans (Nat.mul_le_mul (n₁ := (ch.take k).length) (n₂ := 216) ?_ hms6) (by decide)
          rw [List.length_take]
          omega
        refine s_forLn (a := a) (xs := ms) (ev_var rfl) (sq_of (hbd.ex a _ (e a _ hams))) (fun j σ3 H4 => Bld H' pl (((ch.take k).flatMap fun b => ms.map fun x => b ++ [x]) ++ (ms.take j).map fun x => bb ++ [x]) H4 ∧ ∃ x : Option V, σ3 = [some (.ref p), some (.ref c), some (.ref a), some (.ref pl), some (.ref d), x])
          (fun H4 e4 => ⟨by rw [List.take_zero, List.map_nil, List.append_nil]; exact hbd.mono e4, x, rfl⟩) (fun j σ3 H4 _ z => sq_of (z.1.ex a _ (e a _ hams))) ?_ ?_
        · rintro j z σ3 H4 hj ⟨hb4, x, rfl⟩
          refine s_bld hb4 (ev_var rfl) (ys := bb ++ [z]) (el_catR (ev_var rfl) (el_lst (ea_cons (ev_var rfl) ea_nil) (by show 1 ≤ 100000; decide)) (hb4.ex d _ hdb) (by show bb.length + 1 ≤ 100000; omega)) (by rw [List.length_append, List.length_map, List.length_take]; omega) fun H5 hb5 => ⟨?_, some z, rfl⟩
          rw [take_more hj, List.map_append, ← List.append_assoc]
          exact hb5
        · rintro σ3 H4 ⟨hb4, x, rfl⟩
          refine ⟨?_, some (.ref d), x, rfl⟩
          rw [take_more hbb, List.flatMap_append]
          rw [List.take_length] at hb4
          have e5 : ([bb].flatMap fun b => ms.map fun x => b ++ [x]) = ms.map fun x => bb ++ [x] := by simp
          rw [e5]
          exact hb4
      · rintro σ2 H3 ⟨hbd, b, x, rfl⟩
        refine s_asg (v := .ref pl) (ev_var rfl) fun H4 e4 => ⟨(e.trans hbd.ex).trans e4, pl, some (.ref a), some (.ref pl), b, x, rfl, ?_⟩
        rw [hmore]
        rw [List.length_map, hbl, List.take_length] at hbd
        exact hbd.llv.mono e4
    · rintro σ' H' ⟨e, c, m, l, b, x, rfl, hc⟩
      rw [List.length_map, hql, List.take_length] at hc
      exact s_ret (ev_var rfl) fun H2 e2 => q _ H2 (e.trans e2) ⟨c, rfl, hc.mono e2⟩

/-! ### all_rankings -/
def stepR (k : Nat) (rs : List (List Nat)) : List (List Nat) := rs.flatMap fun b => ((List.range k).filter fun x => !b.contains x).map fun x => b ++ [x]
def itR (k : Nat) : Nat → List (List Nat)
  | 0 => [[]]
  | j + 1 => stepR k (itR k j)
theorem itR_facts {k : Nat} (h2 : 2 ≤ k) (h4 : k ≤ 4) {j : Nat} (hj : j ≤ k) : (itR k j).length ≤ 24 ∧ (∃ b, (itR k j)[0]? = some b ∧ b.length = j) ∧ ∀ b ∈ itR k j, b.length = j := by
  have all : ∀ k, k < 5 → 2 ≤ k → ∀ j, j < 5 → j ≤ k → (decide ((itR k j).length ≤ 24) && ((match (itR k j)[0]? with | some b => b.length == j | none => false) && (itR k j).all fun b => b.length == j)) = true := by decide +kernel
  have h := all k (by omega) h2 j (by omega) hj
  rw [Bool.and_eq_true, Bool.and_eq_true, decide_eq_true_iff, List.all_eq_true] at h
  refine ⟨h.1, ?_, fun b hb => by simpa using h.2.2 b hb⟩
  have h1 := h.2.1
  cases e : (itR k j)[0]? with
  | none =>
    rw [e] at h1
    cases h1
  | some b =>
    rw [e] at h1
    exact ⟨b, rfl, by simpa using h1⟩
theorem inV_nvs (a : Nat) (l : List Nat) : inV (nv a) (nvs l) = l.contains a := by
  unfold inV
  rw [List.any_map]
  induction l with
  | nil => rfl
  | cons x l ih =>
    rw [List.any_cons, List.contains_cons, ← ih]
    congr 1
    show eqV (nv x) (nv a) = (a == x)
    rw [nv_eq]
    by_cases h : x = a
    · subst h
      simp
    · rw [decide_eq_false h]
      simp
      omega
abbrev s_all_rankings : Stmt := topS 10
theorem sc_all_rankings : FnScope ["alternative_count", "rankings", "longer", "beginning", "alternative"] ["alternative_count"] (C8.fnScope (topS 10)) := C8.fnScope_by (by decide +kernel)
def sp_all_rankings : Sp := fun vs H Q _ => ∃ (k : Nat), vs = [nv k] ∧ 2 ≤ k ∧ k ≤ 4 ∧ RetP (fun v H2 => ∃ c, v = .ref c ∧ H c = none ∧ LLVF H H2 c ((itR k k).map nvs)) H Q
theorem cal_all_rankings (T : Txt K mg) {f : Addr} {fd : FuncData} (F : C8.Def K mg "all_rankings" s_all_rankings f fd) (b : Binds K fd ["alternative_count"] []) : C8.Cal P w K mg base 1 "all_rankings" sp_all_rankings [] := by
  refine C8.cal0 F b .nil sc_all_rankings (fun vs H Q E h => ?_) (fun cdv A outer s H vs Q E hr h => ⟨_, (pss_cons (ps_set (i := 1) sc_all_rankings.nd rfl (Or.inl rfl) (pe_lst (pa_cons (pe_lst pa_nil) pa_nil)))
  (pss_cons (ps_while PassesOwn.never (pt_cmpR op_lt (pe_callB call_len_seq (by rfl) T.len PySem.boot_len (pa_cons (pe_ix ix_list (pv 1) pe_int (fun _ _ => rfl)) pa_nil)) (pv 0) (nomark _))
  (pss_cons (ps_set (i := 2) sc_all_rankings.nd rfl (Or.inl rfl) (pe_lst pa_nil))
  (pss_cons (ps_for PassesOwn.never rfl (pi_list (pv 1)) (pg_name (i := 3) sc_all_rankings.nd rfl (Or.inl rfl))
  (pss_one (ps_for PassesOwn.never rfl (pi_range1 (by rfl) T.range (pa_cons (pv 0) pa_nil)) (pg_name (i := 4) sc_all_rankings.nd rfl (Or.inl rfl))
  (pss_one (ps_if (pt_cmpR op_notIn_seq (pv 4) (pv 3) (by rfl))
  (pss_one (ps_expr (pe_bm PySem.F.plainAttrs_list PySem.F.slot_list_append PySem.F.type_list_append mt_append (pv 2) (pa_cons (pe_op op_cat (pv 3) (pe_lst (pa_cons (pv 4) pa_nil))) pa_nil))))
  pss_nil)))))
  (pss_one (ps_set (i := 1) sc_all_rankings.nd rfl (Or.inl rfl) (pv 2))))))
  (pss_one (ps_ret (pv 1))))), ?_⟩)
  · obtain ⟨k, rfl, _⟩ := h
    rfl
  · obtain ⟨k, rfl, hk2, hk4, q⟩ := h
    refine q_asgP (ep_lst1F (el_lst ea_nil (by decide))) fun v H1 e1 hv => ?_
    obtain ⟨c0, rfl, hn0, hc0⟩ := hv
    refine q_while (fun m σ' H' => ∃ j, m = k - j ∧ j ≤ k ∧ Ex H H' ∧ ∃ (c : Addr) (l b x : Option V), σ' = [some (nv k), some (.ref c), l, b, x] ∧ H c = none ∧ LLVF H H' c ((itR k j).map nvs)) k ⟨0, rfl, Nat.zero_le _, e1, c0, none, none, none, rfl, hn0, hc0⟩ ?_
    rintro m σ' H' ⟨j, rfl, hj, e, c, l, b, x, rfl, hcn, hc⟩
    obtain ⟨hn, ⟨b0, hb0, hb0l⟩, hall⟩ := itR_facts hk2 hk4 hj
    obtain ⟨bs, hb1, hb2, hb3⟩ := id hc
    have hbl := plen hb2
    rw [List.length_map] at hbl
    refine ⟨decide (j < k), et_test (ev_lt (a := j) (b := k) ?_ (ev_var rfl)), fun hlt H2 e2 => ?_, fun hlt H2 e2 => ?_⟩
    · obtain ⟨a, ha, har⟩ := pget hb2 (i := 0) (b := nvs b0) (by rw [List.getElem?_map, hb0]; rfl)
      exact ev_is (ev_len (ev_ix (i := 0) (ev_var rfl) ev_c (sq_of hb1) (rfs_at ha)) (sq_of har)) (by show V.int _ = V.int _; rw [List.length_map, hb0l])
    · have hlt' : j < k := of_decide_eq_true hlt
      refine ⟨fun σ2 H3 => Ex H H3 ∧ ∃ (c : Addr) (l b x : Option V), σ2 = [some (nv k), some (.ref c), l, b, x] ∧ H c = none ∧ LLVF H H3 c ((itR k (j + 1)).map nvs), fun σ2 H3 z => ⟨k - (j + 1), by omega, j + 1, rfl, hlt', z⟩, ?_⟩
      refine q_asgL (xs := []) (el_lst ea_nil (by decide)) fun pl H3 hpl e3 hl3 => ?_
      have hstep : itR k (j + 1) = stepR k (itR k j) := rfl
      rw [hstep]
      revert hn hall hb2 hbl
      generalize itR k j = ch
      intro hn hall hb2 hbl
      refine q_forLn (a := c) (xs := rfs bs) (ev_var rfl) (sq_of (e3 c _ (e2 c _ hb1))) (fun i σ2 H4 => Bld H2 pl ((stepR k (ch.take i)).map nvs) H4 ∧ ∃ b x : Option V, σ2 = [some (nv k), some (.ref c), some (.ref pl), b, x]) (fun H4 e4 => ⟨Bld.start hpl (e3.trans e4) (e4 pl _ hl3), b, x, rfl⟩) (fun i σ2 H4 _ z => sq_of (z.1.ex c _ (e2 c _ hb1))) ?_ ?_
      · rintro i y σ2 H4 hi ⟨hbd, b, x, rfl⟩
        obtain ⟨d, hd, rfl⟩ := rfs_get hi
        obtain ⟨bv, hbv, hdb⟩ := pget' hb2 hd
        rw [List.getElem?_map] at hbv
        obtain ⟨bb, hbb, rfl⟩ := Option.map_eq_some_iff.mp hbv
        have hil : i < ch.length := (List.getElem?_eq_some_iff.mp hbb).1
        have hbbl := hall bb (List.mem_of_getElem? hbb)
        have fl : ∀ l : List (List Nat), (stepR k l).length ≤ l.length * k := by
          intro l
          induction l with
          | nil => exact Nat.zero_le _
          | cons a l ih =>
            show (((List.range k).filter fun x => !a.contains x).map (fun x => a ++ [x]) ++ stepR k l).length ≤ _
            rw [List.length_append, List.length_map, List.length_cons, Nat.succ_mul]
            have := List.length_filter_le (fun x => !a.contains x) (List.range k)
            rw [List.length_range] at this
            omega
        have hfl : (stepR k (ch.take i)).length ≤ 96 := by
          refine Nat.le_trans (fl _) (Nat.le_trans (Nat.mul_le_mul (n₂ := 24) (m₂ := 4) ?_ hk4) (by decide))
          rw [List.length_take]
          omega
        have hex : ∀ H5, Ex H2 H5 → H5 d = some (.lst (nvs bb)) := fun H5 e5 => e5 d _ (e2 d _ hdb)
        refine s_forR1 (n := (k : Int)) (ea_cons (ev_var rfl) ea_nil) (by omega) (fun a σ3 H5 => Bld H2 pl ((stepR k (ch.take i) ++ ((List.range a).filter fun x => !bb.contains x).map fun x => bb ++ [x]).map nvs) H5 ∧ ∃ x : Option V, σ3 = [some (nv k), some (.ref c), some (.ref pl), some (.ref d), x])
          (fun H5 e5 => ⟨by rw [List.range_zero, List.filter_nil, List.map_nil, List.append_nil]; exact hbd.mono e5, x, rfl⟩) ?_ ?_
        · rintro a σ3 H5 ha ⟨hb5, x, rfl⟩
          have ha' : a < k := by omega
          refine s_when (b := !bb.contains a) (et_test (ev_is (ev_op (ev_var rfl) (ev_var rfl) (rv_niL (sq_of (hex _ hb5.ex)) rfl (flat_nvs bb))) (by rw [inV_nvs]))) (fun hc1 H6 e6 => ?_) (fun hc1 H6 e6 => ?_)
          · have hg : Bld H2 pl _ H6 := hb5.mono e6
            refine s_bld hg (ev_var rfl) (ys := nvs (bb ++ [a])) (by
              have r := el_catR (σ := [some (nv k), some (.ref c), some (.ref pl), some (.ref d), some (nv a)]) (ta := tVar 3) (tb := tLst (tCons (tVar 4) tNil)) (ev_var rfl) (el_lst (ea_cons (ev_var rfl) ea_nil) (by show 1 ≤ 100000; decide)) (hex _ hg.ex) (by rw [List.length_map]; show bb.length + 1 ≤ 100000; omega)
              rw [nvs, List.map_append]
              exact r) (by
              rw [List.length_map, List.length_append, List.length_map]
              have := List.length_filter_le (fun x => !bb.contains x) (List.range a)
              rw [List.length_range] at this
              omega) fun H7 hb7 => ⟨?_, some (nv a), rfl⟩
            have e8 : ((List.range (a + 1)).filter fun x => !bb.contains x) = ((List.range a).filter fun x => !bb.contains x) ++ [a] := by rw [List.range_succ, List.filter_append, List.filter_cons, if_pos hc1, List.filter_nil]
            rw [e8, List.map_append (l₂ := [a]), ← List.append_assoc, List.map_append (l₂ := List.map (fun x => bb ++ [x]) [a])]
            exact hb7
          · refine ⟨?_, some (nv a), rfl⟩
            rw [List.range_succ, List.filter_append, List.filter_cons, if_neg (by rw [hc1]; decide), List.filter_nil, List.append_nil]
            exact hb5.mono e6
        · rintro σ3 H5 ⟨hb5, x, rfl⟩
          refine ⟨?_, some (.ref d), x, rfl⟩
          rw [Int.toNat_natCast] at hb5
          have e5 : stepR k (ch.take (i + 1)) = stepR k (ch.take i) ++ ((List.range k).filter fun x => !bb.contains x).map fun x => bb ++ [x] := by
            unfold stepR
            rw [take_more hbb, List.flatMap_append]
            simp
          rw [e5]
          exact hb5
      · rintro σ2 H4 ⟨hbd, b, x, rfl⟩
        refine s_asg (v := .ref pl) (ev_var rfl) fun H5 e5 => ⟨((e.trans e2).trans hbd.ex).trans e5, pl, some (.ref pl), b, x, rfl, fresh_back (e.trans e2) hbd.1, ?_⟩
        rw [List.length_map, hbl, List.take_length] at hbd
        exact LLVF.back (e.trans e2) (LLVF.mono e5 hbd.llvf)
    · have hjk : j = k := by have := of_decide_eq_false hlt; omega
      subst hjk
      exact s_ret (ev_var rfl) fun H3 e3 => q _ H3 ((e.trans e2).trans e3) ⟨c, rfl, hcn, LLVF.mono (e2.trans e3) hc⟩

/-! ### has_single_peak -/
abbrev s_has_single_peak : Stmt := topS 12
theorem sc_has_single_peak : FnScope ["ranking", "middle", "low", "high"] ["ranking"] (C8.fnScope (topS 12)) := C8.fnScope_by (by decide +kernel)
def sp_has_single_peak : Sp := fun vs H Q _ => ∃ (p : Addr) (l : List Nat) (k : Nat), vs = [.ref p] ∧ H p = some (.lst (nvs l)) ∧ Su193.isPreference k l = true ∧ k ≤ 1000 ∧ RetV (.bl (Su193.isSinglePeaked k l)) H Q
theorem cal_has_single_peak (T : Txt K mg) (c_prefers : C8.Cal P w K mg base 1 "prefers" sp_prefers []) {f : Addr} {fd : FuncData} (F : C8.Def K mg "has_single_peak" s_has_single_peak f fd) (b : Binds K fd ["ranking"] []) : C8.Cal P w K mg base 2 "has_single_peak" sp_has_single_peak [] := by
  refine C8.cal0 F b .nil sc_has_single_peak (fun vs H Q E h => ?_) (fun cdv A outer s H vs Q E hr h => ⟨_, (pss_cons (ps_for PassesOwn.never rfl (pi_range1 (by rfl) T.range (pa_cons (pe_callB call_len_seq (by rfl) T.len PySem.boot_len (pa_cons (pv 0) pa_nil)) pa_nil)) (pg_name (i := 1) sc_has_single_peak.nd rfl (Or.inl rfl))
  (pss_one (ps_for PassesOwn.never rfl (pi_range1 (by rfl) T.range (pa_cons (pv 1) pa_nil)) (pg_name (i := 2) sc_has_single_peak.nd rfl (Or.inl rfl))
  (pss_one (ps_for PassesOwn.never rfl (pi_range2 (by rfl) T.range (pa_cons (pe_op op_add (pv 1) pe_int) (pa_cons (pe_callB call_len_seq (by rfl) T.len PySem.boot_len (pa_cons (pv 0) pa_nil)) pa_nil))) (pg_name (i := 3) sc_has_single_peak.nd rfl (Or.inl rfl))
  (pss_one (ps_if (PW.pt (pw_and (pt_not (pt_val (C8.pe_c c_prefers hr (by decide) rfl (pa_cons (pv 0) (pa_cons (pv 1) (pa_cons (pv 2) pa_nil)))))) (pw_and1 (pt_not (pt_val (C8.pe_c c_prefers hr (by decide) rfl (pa_cons (pv 0) (pa_cons (pv 1) (pa_cons (pv 3) pa_nil)))))))))
  (pss_one (ps_ret pe_bl))
  pss_nil)))))))
  (pss_one (ps_ret pe_bl))), ?_⟩)
  · obtain ⟨p, l, k, rfl, _⟩ := h
    rfl
  · obtain ⟨p, l, k, rfl, hp, hl, hk, q⟩ := h
    have hlen := pref_len hl
    have ev_l : ∀ (σ : L2.St) (H1 : Hp), σ[0]? = some (some (.ref p)) → Ex H H1 → Ev (tCB (rLenS K) (tCons (tVar 0) tNil)) σ H1 (nv k) := fun σ H1 hσ e => ev_is (ev_len (ev_var hσ) (sq_of (e p _ hp))) (by show V.int _ = V.int _; rw [List.length_map, hlen])
    have hpref : ∀ {σ : L2.St} {H1 : Hp} {i j a c : Nat}, Ex H H1 → σ[0]? = some (some (.ref p)) → σ[i]? = some (some (nv a)) → σ[j]? = some (some (nv c)) → a < k → c < k → Ev (tCall sp_prefers [] C8.E0 (tCons (tVar 0) (tCons (tVar i) (tCons (tVar j) tNil)))) σ H1 (.bl (Su193.prefers l a c)) := fun e h0 hi hj ha hc =>
      ev_call (ea_cons (ev_var h0) (ea_cons (ev_var hi) (ea_cons (ev_var hj) ea_nil))) fun H2 e2 Q2 q2 E2 => ⟨p, l, _, _, rfl, (e.trans e2) p _ hp, pref_mem hl ha, pref_mem hl hc, q2⟩
    refine q_forR1 (n := (k : Int)) (ea_cons (ev_l _ _ rfl (Ex.refl H)) ea_nil) (by omega) (fun i σ' H' => Ex H H' ∧ (∀ m lo hi, m < i → lo < m → m < hi → hi < k → okPk l m lo hi = true) ∧ ∃ a b c : Option V, σ' = [some (.ref p), a, b, c]) (fun H1 e1 => ⟨e1, fun m lo hi h => absurd h (Nat.not_lt_zero _), none, none, none, rfl⟩) ?_ ?_
    · rintro i σ' H' hi0 ⟨e, ok, a, b, c, rfl⟩
      refine s_forR1 (n := (i : Int)) (ea_cons (ev_var rfl) ea_nil) (by omega) (fun j σ2 H2 => Ex H H2 ∧ (∀ lo hi, lo < j → lo < i → i < hi → hi < k → okPk l i lo hi = true) ∧ ∃ b c : Option V, σ2 = [some (.ref p), some (nv i), b, c]) (fun H1 e1 => ⟨e.trans e1, fun lo hi h => absurd h (Nat.not_lt_zero _), b, c, rfl⟩) ?_ ?_
      · rintro j σ2 H2 hj ⟨e2, ok2, b, c, rfl⟩
        refine s_forR2 (lo := ((i + 1 : Nat) : Int)) (n := (k : Int)) (ea_cons (ev_add (a := i) (b := 1) (ev_var rfl) ev_c) (ea_cons (ev_l _ _ rfl e2) ea_nil)) (by omega) (fun x σ3 H3 => Ex H H3 ∧ (∀ hi, i < hi → hi < i + 1 + x → hi < k → okPk l i j hi = true) ∧ ∃ c : Option V, σ3 = [some (.ref p), some (nv i), some (nv j), c]) (fun H3 e3 => ⟨e2.trans e3, fun hi h1 h2 => absurd h2 (by omega), c, rfl⟩) ?_ ?_
        · rintro x σ3 H3 hx ⟨e3, ok3, c, rfl⟩
          have hv : V.int (((i + 1 : Nat) : Int) + (x : Int)) = nv (i + 1 + x) := by
            show V.int _ = V.int _
            rw [Int.natCast_add (i + 1) x]
          rw [hv]
          refine s_when (b := !Su193.prefers l i j && !Su193.prefers l i (i + 1 + x)) (et_and (et_not (et_B (hpref e3 rfl rfl rfl (by omega) (by omega)))) fun _ => et_not (et_B (hpref e3 rfl rfl rfl (by omega) (by omega)))) (fun hb H4 e4 => ?_) (fun hb H4 e4 => ?_)
          · refine s_ret ev_c fun H5 e5 => ?_
            have hno : Su193.isSinglePeaked k l = false := by
              cases hsp : Su193.isSinglePeaked k l with
              | false => rfl
              | true =>
                have h1 := (peak_iff hl).mp hsp i j (i + 1 + x) (by omega) (by omega) (by omega)
                unfold okPk at h1
                rw [Bool.and_eq_true, Bool.not_eq_true', Bool.not_eq_true'] at hb
                rw [hb.1, hb.2] at h1
                cases h1
            rw [hno] at q
            exact q H5 ((e3.trans e4).trans e5)
          · refine ⟨e3.trans e4, fun hi h1 h2 h3 => ?_, some (nv (i + 1 + x)), rfl⟩
            by_cases hlast : hi = i + 1 + x
            · subst hlast
              unfold okPk
              cases h4 : Su193.prefers l i j with
              | true => rfl
              | false =>
                rw [h4] at hb
                cases h5 : Su193.prefers l i (i + 1 + x) with
                | true => rfl
                | false =>
                  rw [h5] at hb
                  cases hb
            · exact ok3 hi h1 (by omega) h3
        · rintro σ3 H3 ⟨e3, ok3, c, rfl⟩
          refine ⟨e3, fun lo hi h1 h2 h3 h4 => ?_, some (nv j), c, rfl⟩
          by_cases hlast : lo = j
          · subst hlast
            exact ok3 hi h3 (by omega) h4
          · exact ok2 lo hi (by omega) h2 h3 h4
      · rintro σ2 H2 ⟨e2, ok2, b, c, rfl⟩
        refine ⟨e2, fun m lo hi h1 h2 h3 h4 => ?_, some (nv i), b, c, rfl⟩
        by_cases hlast : m = i
        · subst hlast
          exact ok2 lo hi (by omega) h2 h3 h4
        · exact ok m lo hi (by omega) h2 h3 h4
    · rintro σ' H' ⟨e, ok, a, b, c, rfl⟩
      refine s_ret ev_c fun H1 e1 => ?_
      have hyes : Su193.isSinglePeaked k l = true := (peak_iff hl).mpr fun m lo hi h1 h2 h3 => ok m lo hi (by omega) h1 h2 h3
      rw [hyes] at q
      exact q H1 (e.trans e1)
end Tc
namespace Tc
open PySem PySem.Spec PyProof.Rows L2 Evl
open Su193 (SocialChoice)
section
variable {K : PySem.W.Frag} {σ : L2.St} {H H' : Hp} {ta tb te ti to tx : TE} {t u : TT} {x y z v : V} {r : R2} {P : V → Hp → Prop} {D : Ends} {tu tz : TS}
/-- xs[i] += n -/
theorem s_augS {l : Addr} {s : List Nat} {j a b : Nat} (hl : H l = some (.lst (nvs s))) (ho : Ev to σ H (.ref l)) (hi : Ev ti σ H (nv j)) (hj : s[j]? = some a) (he : Ev te σ H (nv b)) (k : ∀ H1, Ex H H1 → D.nx σ (upd H1 l (.lst (nvs (s.set j (a + b)))))) :
    tAugS to ti te (rGet K) (ipI fun i j => i + j) rSetL D σ H := ho H (Ex.refl H) _ fun H1 e1 => hi H1 e1 _ fun H2 e2 =>
  ⟨l, nvs s, j, nv a, rfl, rfl, sq_of ((e1.trans e2) l _ hl), nvs_at hj, he H2 (e1.trans e2) _ fun H3 e3 => ⟨_, _, rfl, rfl, l, nvs s, (j : Int), j, rfl, rfl, ((e1.trans e2).trans e3) l _ hl, ixN_nat (by
    rw [List.length_map]
    exact (List.getElem?_eq_some_iff.mp hj).1), by
    have g := k H3 ((e1.trans e2).trans e3)
    rw [nvs, List.map_set] at g
    have e4 : nv (a + b) = V.int ((a : Int) + (b : Int)) := by show V.int _ = V.int _; rw [Int.natCast_add]
    rw [e4] at g
    exact g⟩⟩
/-- for i, x in enumerate(xs) -/
theorem s_forE {tas : TA} {j1 j2 : Nat} {a : Addr} {xs : List V} (h : EvA tas σ H [.ref a]) (hx : SqL K H a xs) (Pv : Nat → L2.St → Hp → Prop) (h0 : ∀ H1, Ex H H1 → Pv 0 σ H1) (up : ∀ i σ' H1 H2, Pv i σ' H1 → Ex H1 H2 → Pv i σ' H2) (hl : ∀ i σ' H', i ≤ xs.length → Pv i σ' H' → SqL K H' a xs)
    (hs : ∀ i x σ' H', xs[i]? = some x → Pv i σ' H' → tu { D with nx := Pv (i + 1), ct := Pv (i + 1), bk := D.nx } ((σ'.set j1 (some (nv i))).set j2 (some x)) H') (hd : ∀ σ' H', Pv xs.length σ' H' → D.nx σ' H') :
    tFor (iEnum K tas) (gTup K 2 (gCons (gName j1) (gCons (gName j2) gNil))) tu D σ H := h H (Ex.refl H) _ fun H1 e1 => ⟨a, xs, rfl, ex_l e1 hx,
  for_it (walk_enum (K := K) (a := a) (xs := xs)) Pv (h0 H1 e1) hl (fun i v σ2 H2 H3 hi p y => by
    obtain ⟨T, x, z, rfl, hT, rfl, h1, h2⟩ := y
    cases h1
    exact ⟨T, [nv i, z], rfl, st_of upd_same, rfl, nv i, [z], rfl, z, [], rfl, rfl, hs i z σ2 _ h2 (up i σ2 H2 _ p (Ex.new hT))⟩) hd⟩
theorem q_forE {tas : TA} {j1 j2 : Nat} {a : Addr} {xs : List V} (h : EvA tas σ H [.ref a]) (hx : SqL K H a xs) (Pv : Nat → L2.St → Hp → Prop) (h0 : ∀ H1, Ex H H1 → Pv 0 σ H1) (up : ∀ i σ' H1 H2, Pv i σ' H1 → Ex H1 H2 → Pv i σ' H2) (hl : ∀ i σ' H', i ≤ xs.length → Pv i σ' H' → SqL K H' a xs)
    (hs : ∀ i x σ' H', xs[i]? = some x → Pv i σ' H' → tu { D with nx := Pv (i + 1), ct := Pv (i + 1), bk := tz D } ((σ'.set j1 (some (nv i))).set j2 (some x)) H') (hd : ∀ σ' H', Pv xs.length σ' H' → tz D σ' H') :
    tSeq (tFor (iEnum K tas) (gTup K 2 (gCons (gName j1) (gCons (gName j2) gNil))) tu) tz D σ H := s_forE (D := { D with nx := tz D }) h hx Pv h0 up hl hs hd
/-- for x, y in zip(xs, ys), of one length -/
theorem s_forZ {tas : TA} {j1 j2 : Nat} {a b : Addr} {xs ys : List V} (h : EvA tas σ H [.ref a, .ref b]) (hx : SqL K H a xs) (hy : SqL K H b ys) (hn : xs.length = ys.length) (Pv : Nat → L2.St → Hp → Prop) (h0 : ∀ H1, Ex H H1 → Pv 0 σ H1) (up : ∀ i σ' H1 H2, Pv i σ' H1 → Ex H1 H2 → Pv i σ' H2)
    (hl : ∀ i σ' H', i ≤ xs.length → Pv i σ' H' → SqL K H' a xs ∧ SqL K H' b ys)
    (hs : ∀ i x y σ' H', xs[i]? = some x → ys[i]? = some y → Pv i σ' H' → tu { D with nx := Pv (i + 1), ct := Pv (i + 1), bk := D.nx } ((σ'.set j1 (some x)).set j2 (some y)) H') (hd : ∀ σ' H', Pv xs.length σ' H' → D.nx σ' H') :
    tFor (iZip K tas) (gTup K 2 (gCons (gName j1) (gCons (gName j2) gNil))) tu D σ H := h H (Ex.refl H) _ fun H1 e1 => ⟨a, b, xs, ys, rfl, ex_l e1 hx, ex_l e1 hy,
  for_it (walk_zip (K := K) (a := a) (b := b) (xs := xs) (ys := ys) (n := xs.length) (by omega)) Pv (h0 H1 e1) hl (fun i v σ2 H2 H3 hi p y => by
    obtain ⟨T, x, z, rfl, hT, rfl, h1, h2⟩ := y
    exact ⟨T, [x, z], rfl, st_of upd_same, rfl, x, [z], rfl, z, [], rfl, rfl, hs i x z σ2 _ h1 h2 (up i σ2 H2 _ p (Ex.new hT))⟩) hd⟩
theorem q_forZ {tas : TA} {j1 j2 : Nat} {a b : Addr} {xs ys : List V} (h : EvA tas σ H [.ref a, .ref b]) (hx : SqL K H a xs) (hy : SqL K H b ys) (hn : xs.length = ys.length) (Pv : Nat → L2.St → Hp → Prop) (h0 : ∀ H1, Ex H H1 → Pv 0 σ H1) (up : ∀ i σ' H1 H2, Pv i σ' H1 → Ex H1 H2 → Pv i σ' H2)
    (hl : ∀ i σ' H', i ≤ xs.length → Pv i σ' H' → SqL K H' a xs ∧ SqL K H' b ys)
    (hs : ∀ i x y σ' H', xs[i]? = some x → ys[i]? = some y → Pv i σ' H' → tu { D with nx := Pv (i + 1), ct := Pv (i + 1), bk := tz D } ((σ'.set j1 (some x)).set j2 (some y)) H') (hd : ∀ σ' H', Pv xs.length σ' H' → tz D σ' H') :
    tSeq (tFor (iZip K tas) (gTup K 2 (gCons (gName j1) (gCons (gName j2) gNil))) tu) tz D σ H := s_forZ (D := { D with nx := tz D }) h hx hy hn Pv h0 up hl hs hd
theorem cut_from (xs : List V) (k : Nat) : cutV xs (some (k : Int)) none = xs.drop k := by
  unfold cutV
  rw [HT.sIx_nat, HT.sIx_none]
  rcases Nat.le_total k xs.length with h | h
  · rw [Nat.min_eq_left h, List.take_of_length_le (by rw [List.length_drop]; exact Nat.le_refl _)]
  · rw [Nat.min_eq_right h, Nat.sub_self, List.take_zero, List.drop_eq_nil_of_le h]
theorem cut_mid (xs : List V) (a b : Nat) (h : a ≤ b) (hb : b ≤ xs.length) : cutV xs (some (a : Int)) (some (b : Int)) = (xs.drop a).take (b - a) := by
  unfold cutV
  rw [HT.sIx_nat, HT.sIx_nat, Nat.min_eq_left (show a ≤ xs.length by omega), Nat.min_eq_left hb]
end
variable {P : Program} {w : World} {K : PySem.W.Frag} {mg : Str → Option Value} {base : Heap}

/-! ### plurality -/
def vote (s r : List Nat) : List Nat := s.set (Su193.peak r) (s.getD (Su193.peak r) 0 + 1)
def plurS (k : Nat) (rs : List (List Nat)) : List Nat := rs.foldl vote (List.replicate k 0)
theorem plurS_more {k : Nat} {rs : List (List Nat)} {i : Nat} {r : List Nat} (h : rs[i]? = some r) : plurS k (rs.take (i + 1)) = vote (plurS k (rs.take i)) r := by
  unfold plurS
  rw [take_more h, List.foldl_append]
  rfl
theorem plurS_len (k : Nat) (rs : List (List Nat)) : (plurS k rs).length = k := by
  have h : ∀ (rs : List (List Nat)) (s : List Nat), (rs.foldl vote s).length = s.length := by
    intro rs
    induction rs with
    | nil => intro s; rfl
    | cons r rs ih =>
      intro s
      rw [List.foldl_cons, ih]
      unfold vote
      rw [List.length_set]
  unfold plurS
  rw [h, List.length_replicate]
theorem nvs_rep (n : Nat) : List.replicate n (nv 0) = nvs (List.replicate n 0) := by rw [nvs, List.map_replicate]
theorem getD_at {l : List Nat} {i : Nat} (h : i < l.length) : l[i]? = some (l.getD i 0) := by
  rw [List.getD_eq_getElem?_getD, List.getElem?_eq_getElem h]
  rfl
abbrev s_plurality : Stmt := topS 35
theorem sc_plurality : FnScope ["reported", "scores", "ranking"] ["reported"] (C8.fnScope (topS 35)) := C8.fnScope_by (by decide +kernel)
def sp_plurality : Sp := fun vs H Q _ => ∃ (p : Addr) (rs : List (List Nat)) (k : Nat), vs = [.ref p] ∧ LLN H p rs ∧ rs ≠ [] ∧ 0 < k ∧ k ≤ 1000 ∧ (∀ r ∈ rs, r.length = k ∧ ∀ x ∈ r, x < k) ∧ RetV (nv (lowMost (plurS k rs))) H Q
theorem cal_plurality (T : Txt K mg) (c_lowest_with_most : C8.Cal P w K mg base 1 "lowest_with_most" sp_lowest_with_most []) {f : Addr} {fd : FuncData} (F : C8.Def K mg "plurality" s_plurality f fd) (b : Binds K fd ["reported"] []) : C8.Cal P w K mg base 2 "plurality" sp_plurality [] := by
  refine C8.cal0 F b .nil sc_plurality (fun vs H Q E h => ?_) (fun cdv A outer s H vs Q E hr h => ⟨_, (pss_cons (ps_set (i := 1) sc_plurality.nd rfl (Or.inl rfl) (pe_op op_rep (pe_lst (pa_cons pe_int pa_nil)) (pe_callB call_len_seq (by rfl) T.len PySem.boot_len (pa_cons (pe_ix ix_list (pv 0) pe_int (fun _ _ => rfl)) pa_nil))))
  (pss_cons (ps_for PassesOwn.never rfl (pi_list (pv 0)) (pg_name (i := 2) sc_plurality.nd rfl (Or.inl rfl))
  (pss_one (ps_augS (pv 1) (pe_ix ix_list (pv 2) pe_int (fun _ _ => rfl)) get_list pe_int ip_add set_list)))
  (pss_one (ps_ret (C8.pe_c c_lowest_with_most hr (by decide) rfl (pa_cons (pv 1) pa_nil)))))), ?_⟩)
  · obtain ⟨p, rs, k, rfl, _⟩ := h
    rfl
  · obtain ⟨p, rs, k, rfl, hp, hne, hk, hk2, hr, q⟩ := h
    obtain ⟨qs, h1, h2, h3⟩ := hp.list
    have h0 : 0 < rs.length := List.length_pos_iff.mpr hne
    have hpk : ∀ r ∈ rs, r[0]? = some (Su193.peak r) ∧ Su193.peak r < k := fun r hm => by
      obtain ⟨ha, hb⟩ := hr r hm
      cases r with
      | nil => simp at ha; omega
      | cons x r => exact ⟨rfl, hb x (List.mem_cons_self ..)⟩
    have hq0 : qs[0]? = some qs[0] := List.getElem?_eq_getElem (by omega)
    obtain ⟨r0, hr0, hrq⟩ := h3 0 _ hq0
    have hlen0 := (hr r0 (List.mem_of_getElem? hr0)).1
    refine q_asgL (xs := List.replicate k (nv 0)) (el_rep (el_lst (ea_cons ev_c ea_nil) (by show 1 ≤ 100000; decide)) (ev_is (ev_len (ev_ix (i := 0) (ev_var rfl) ev_c (sq_of h1) (rfs_at hq0)) (sq_of hrq)) (by show V.int _ = V.int _; rw [List.length_map, hlen0])) (by omega)) fun ps H1 hps e1 hs1 => ?_
    rw [nvs_rep] at hs1
    refine q_forLn (a := p) (xs := rfs qs) (ev_var rfl) (sq_of (e1 p _ h1)) (fun i σ' H' => Ex H H' ∧ H' ps = some (.lst (nvs (plurS k (rs.take i)))) ∧ ∃ v : Option V, σ' = [some (.ref p), some (.ref ps), v]) (fun H2 e2 => ⟨e1.trans e2, e2 ps _ hs1, none, rfl⟩) (fun i σ' H' _ z => sq_of (z.1 p _ h1)) ?_ ?_
    · rintro i y σ' H' hi ⟨e, hs, v, rfl⟩
      obtain ⟨a, ha, rfl⟩ := rfs_get hi
      obtain ⟨r, hra, hrr⟩ := h3 i a ha
      obtain ⟨hp1, hp2⟩ := hpk r (List.mem_of_getElem? hra)
      refine s_augS hs (ev_var rfl) (ev_ix (i := 0) (ev_var rfl) ev_c (sq_of (e a _ hrr)) (nvs_at hp1)) (getD_at (by rw [plurS_len]; exact hp2)) (b := 1) ev_c fun H2 e2 => ⟨Ex.mut (e.trans e2) hps, ?_, some (.ref a), rfl⟩
      rw [plurS_more hra]
      exact upd_same
    · rintro σ' H' ⟨e, hs, v, rfl⟩
      rw [List.length_map, h2, List.take_length] at hs
      exact s_ret (ev_call (ea_cons (ev_var rfl) ea_nil) fun H2 e2 Q2 q2 E2 => ⟨ps, plurS k rs, rfl, e2 ps _ hs, fun z => by have := plurS_len k rs; rw [z] at this; simp at this; omega, q2⟩) fun H2 e2 => q H2 (e.trans e2)

/-! ### borda -/
def bstep (r : List Nat) (s : List Nat) (j : Nat) : List Nat := s.set (r.getD j 0) (s.getD (r.getD j 0) 0 + (r.length - 1 - j))
def bone (s r : List Nat) : List Nat := (List.range r.length).foldl (bstep r) s
def bordS (k : Nat) (rs : List (List Nat)) : List Nat := rs.foldl bone (List.replicate k 0)
theorem bstep_len (r : List Nat) (l : List Nat) : ∀ s : List Nat, (l.foldl (bstep r) s).length = s.length := by
  induction l with
  | nil => intro s; rfl
  | cons j l ih =>
    intro s
    rw [List.foldl_cons, ih]
    unfold bstep
    rw [List.length_set]
theorem bordS_len (k : Nat) (rs : List (List Nat)) : (bordS k rs).length = k := by
  have h : ∀ (rs : List (List Nat)) (s : List Nat), (rs.foldl bone s).length = s.length := by
    intro rs
    induction rs with
    | nil => intro s; rfl
    | cons r rs ih =>
      intro s
      rw [List.foldl_cons, ih]
      exact bstep_len r _ s
  unfold bordS
  rw [h, List.length_replicate]
theorem bordS_more {k : Nat} {rs : List (List Nat)} {i : Nat} {r : List Nat} (h : rs[i]? = some r) : bordS k (rs.take (i + 1)) = bone (bordS k (rs.take i)) r := by
  unfold bordS
  rw [take_more h, List.foldl_append]
  rfl
abbrev s_borda : Stmt := topS 36
theorem sc_borda : FnScope ["reported", "scores", "ranking", "rank", "alternative"] ["reported"] (C8.fnScope (topS 36)) := C8.fnScope_by (by decide +kernel)
def sp_borda : Sp := fun vs H Q _ => ∃ (p : Addr) (rs : List (List Nat)) (k : Nat), vs = [.ref p] ∧ LLN H p rs ∧ rs ≠ [] ∧ 0 < k ∧ k ≤ 1000 ∧ (∀ r ∈ rs, r.length = k ∧ ∀ x ∈ r, x < k) ∧ RetV (nv (lowMost (bordS k rs))) H Q
theorem cal_borda (T : Txt K mg) (c_lowest_with_most : C8.Cal P w K mg base 1 "lowest_with_most" sp_lowest_with_most []) {f : Addr} {fd : FuncData} (F : C8.Def K mg "borda" s_borda f fd) (b : Binds K fd ["reported"] []) : C8.Cal P w K mg base 2 "borda" sp_borda [] := by
  refine C8.cal0 F b .nil sc_borda (fun vs H Q E h => ?_) (fun cdv A outer s H vs Q E hr h => ⟨_, (pss_cons (ps_set (i := 1) sc_borda.nd rfl (Or.inl rfl) (pe_op op_rep (pe_lst (pa_cons pe_int pa_nil)) (pe_callB call_len_seq (by rfl) T.len PySem.boot_len (pa_cons (pe_ix ix_list (pv 0) pe_int (fun _ _ => rfl)) pa_nil))))
  (pss_cons (ps_for PassesOwn.never rfl (pi_list (pv 0)) (pg_name (i := 2) sc_borda.nd rfl (Or.inl rfl))
  (pss_one (ps_for PassesOwn.never rfl (pi_enum (by rfl) T.enumerate (pa_cons (pv 2) pa_nil)) (pg_tup rfl (pgs_cons (pg_name (i := 3) sc_borda.nd rfl (Or.inl rfl)) (pgs_cons (pg_name (i := 4) sc_borda.nd rfl (Or.inl rfl)) pgs_nil)))
  (pss_one (ps_augS (pv 1) (pv 4) get_list (pe_op op_sub (pe_op op_sub (pe_callB call_len_seq (by rfl) T.len PySem.boot_len (pa_cons (pv 2) pa_nil)) pe_int) (pv 3)) ip_add set_list)))))
  (pss_one (ps_ret (C8.pe_c c_lowest_with_most hr (by decide) rfl (pa_cons (pv 1) pa_nil)))))), ?_⟩)
  · obtain ⟨p, rs, k, rfl, _⟩ := h
    rfl
  · obtain ⟨p, rs, k, rfl, hp, hne, hk, hk2, hr, q⟩ := h
    obtain ⟨qs, h1, h2, h3⟩ := hp.list
    have h0 : 0 < rs.length := List.length_pos_iff.mpr hne
    have hq0 : qs[0]? = some qs[0] := List.getElem?_eq_getElem (by omega)
    obtain ⟨r0, hr0, hrq⟩ := h3 0 _ hq0
    have hlen0 := (hr r0 (List.mem_of_getElem? hr0)).1
    refine q_asgL (xs := List.replicate k (nv 0)) (el_rep (el_lst (ea_cons ev_c ea_nil) (by show 1 ≤ 100000; decide)) (ev_is (ev_len (ev_ix (i := 0) (ev_var rfl) ev_c (sq_of h1) (rfs_at hq0)) (sq_of hrq)) (by show V.int _ = V.int _; rw [List.length_map, hlen0])) (by omega)) fun ps H1 hps e1 hs1 => ?_
    rw [nvs_rep] at hs1
    refine q_forLn (a := p) (xs := rfs qs) (ev_var rfl) (sq_of (e1 p _ h1)) (fun i σ' H' => Ex H H' ∧ H' ps = some (.lst (nvs (bordS k (rs.take i)))) ∧ ∃ v b c : Option V, σ' = [some (.ref p), some (.ref ps), v, b, c]) (fun H2 e2 => ⟨e1.trans e2, e2 ps _ hs1, none, none, none, rfl⟩) (fun i σ' H' _ z => sq_of (z.1 p _ h1)) ?_ ?_
    · rintro i y σ' H' hi ⟨e, hs, v, b, c, rfl⟩
      obtain ⟨a, ha, rfl⟩ := rfs_get hi
      obtain ⟨r, hra, hrr⟩ := h3 i a ha
      obtain ⟨hrl, hrb⟩ := hr r (List.mem_of_getElem? hra)
      have hb0 : (bordS k (rs.take i)).length = k := bordS_len k _
      rw [bordS_more hra]
      revert hs hb0
      generalize bordS k (rs.take i) = s0
      intro hs hb0
      refine s_forE (a := a) (xs := nvs r) (ea_cons (ev_var rfl) ea_nil) (sq_of (e a _ hrr)) (fun j σ2 H2 => Ex H H2 ∧ H2 ps = some (.lst (nvs ((List.range j).foldl (bstep r) s0))) ∧ ∃ b c : Option V, σ2 = [some (.ref p), some (.ref ps), some (.ref a), b, c]) (fun H2 e2 => ⟨e.trans e2, e2 ps _ hs, b, c, rfl⟩) (fun j σ2 H2 H3 z e3 => ⟨z.1.trans e3, e3 ps _ z.2.1, z.2.2⟩) (fun j σ2 H2 _ z => sq_of (z.1 a _ hrr)) ?_ ?_
      · rintro j x σ2 H2 hj ⟨e2, hs2, b, c, rfl⟩
        obtain ⟨n, hn, rfl⟩ := nvs_get hj
        have hjl : j < r.length := (List.getElem?_eq_some_iff.mp hn).1
        have hnk := hrb n (List.mem_of_getElem? hn)
        have hnr : r.getD j 0 = n := by rw [List.getD_eq_getElem?_getD, hn]; rfl
        refine s_augS hs2 (ev_var rfl) (ev_var rfl) (getD_at (by rw [bstep_len, hb0]; exact hnk)) (b := r.length - 1 - j) (ev_sub (ev_sub (a := r.length) (b := 1) (ev_is (ev_len (ev_var rfl) (sq_of (e2 a _ hrr))) (by show V.int _ = V.int _; rw [List.length_map])) ev_c (by omega)) (ev_var rfl) (by omega)) fun H3 e3 => ⟨Ex.mut (e2.trans e3) hps, ?_, some (nv j), some (nv n), rfl⟩
        rw [List.range_succ, List.foldl_append]
        show _ = some (HO.lst (nvs (bstep r _ j)))
        unfold bstep
        rw [hnr]
        exact upd_same
      · rintro σ2 H2 ⟨e2, hs2, b, c, rfl⟩
        refine ⟨e2, ?_, some (.ref a), b, c, rfl⟩
        rw [List.length_map] at hs2
        exact hs2
    · rintro σ' H' ⟨e, hs, v, b, c, rfl⟩
      rw [List.length_map, h2, List.take_length] at hs
      exact s_ret (ev_call (ea_cons (ev_var rfl) ea_nil) fun H2 e2 Q2 q2 E2 => ⟨ps, bordS k rs, rfl, e2 ps _ hs, fun z => by have := bordS_len k rs; rw [z] at this; simp at this; omega, q2⟩) fun H2 e2 => q H2 (e.trans e2)

/-! ### sequential_majority -/
def seqM (rs : List (List Nat)) (b x : Nat) : Nat := if 2 * (rs.filter fun r => Su193.prefers r x b).length > rs.length then x else b
def seqMaj (rs : List (List Nat)) (ag : List Nat) : Nat := (ag.drop 1).foldl (seqM rs) (ag.headD 0)
theorem zip_filt {α β : Type} (p : β → Bool) : ∀ (as : List α) (bs : List β), as.length = bs.length → ((as.zip bs).filter fun d => p d.2).length = (bs.filter p).length
  | [], [], _ => rfl
  | a :: as, b :: bs, h => by
    have ih := zip_filt p as bs (Nat.succ.inj h)
    rw [List.zip_cons_cons, List.filter_cons, List.filter_cons]
    cases hp : p b with
    | true => simp only [if_true, List.length_cons, ih]
    | false => simpa using ih
  | [], _ :: _, h => by cases h
  | _ :: _, [], h => by cases h
abbrev s_sequential_majority : Stmt := topS 37
theorem sc_sequential_majority : FnScope ["reported", "agenda", "current", "challenger", "ranking", "supporters"] ["reported", "agenda"] (C8.fnScope (topS 37)) := C8.fnScope_by (by decide +kernel)
def sp_sequential_majority : Sp := fun vs H Q _ => ∃ (p pa : Addr) (rs : List (List Nat)) (ag : List Nat), vs = [.ref p, .ref pa] ∧ LLN H p rs ∧ H pa = some (.lst (nvs ag)) ∧ ag ≠ [] ∧ rs.length ≤ 1000 ∧ ag.length ≤ 1000 ∧ (∀ r ∈ rs, ∀ x ∈ ag, x ∈ r) ∧ RetV (nv (seqMaj rs ag)) H Q
theorem cal_sequential_majority (T : Txt K mg) (c_prefers : C8.Cal P w K mg base 1 "prefers" sp_prefers []) {f : Addr} {fd : FuncData} (F : C8.Def K mg "sequential_majority" s_sequential_majority f fd) (b : Binds K fd ["reported", "agenda"] []) : C8.Cal P w K mg base 2 "sequential_majority" sp_sequential_majority [] := by
  refine C8.cal0 F b .nil sc_sequential_majority (fun vs H Q E h => ?_) (fun cdv A outer s H vs Q E hr h => ⟨_, (pss_cons (ps_set (i := 2) sc_sequential_majority.nd rfl (Or.inr rfl) (pe_ix ix_list (pv 1) pe_int (fun _ _ => rfl)))
  (pss_cons (ps_for PassesOwn.never rfl (pi_list (pe_slice sl_list (pv 1) (po_some pe_int) po_none)) (pg_name (i := 3) sc_sequential_majority.nd rfl (Or.inr rfl))
  (pss_cons (ps_setLc (i := 5) rfl sc_sequential_majority.nd rfl rfl (sw_true rfl rfl rfl (by decide +kernel)) (own := [("ranking", 4)]) (g := gName 4) (pi_list (pv 0)) (blkOk_by (own := [("ranking", 4)]) (N := ["reported", "agenda", "current", "challenger", "ranking", "supporters"]) (sc := C8.fnScope (topS 37)) (by decide +kernel)) (fun _ _ _ _ _ => (pg_name (i := 4) sc_sequential_majority.nd rfl (Or.inl rfl))) (fun _ _ _ _ _ => (pts_one (pt_val (C8.pe_c c_prefers hr (by decide) rfl (pa_cons (pv 4) (pa_cons (pv 3) (pa_cons (pv 2) pa_nil))))))) (fun _ _ _ _ _ => (pv 4)))
  (pss_one (ps_if (pt_cmpR op_gt (pe_op op_mul pe_int (pe_callB call_len_seq (by rfl) T.len PySem.boot_len (pa_cons (pv 5) pa_nil))) (pe_callB call_len_seq (by rfl) T.len PySem.boot_len (pa_cons (pv 0) pa_nil)) (nomark _))
  (pss_one (ps_set (i := 2) sc_sequential_majority.nd rfl (Or.inr rfl) (pv 3)))
  pss_nil))))
  (pss_one (ps_ret (pv 2))))), ?_⟩)
  · obtain ⟨p, pa, rs, ag, rfl, _⟩ := h
    rfl
  · obtain ⟨p, pa, rs, ag, rfl, hp, hpa, hne, hl1, hl2, hin, q⟩ := h
    obtain ⟨qs, h1, h2, h3⟩ := hp.list
    obtain ⟨x0, hx0⟩ : ∃ x0, ag[0]? = some x0 := by
      cases ag with
      | nil => exact absurd rfl hne
      | cons x l => exact ⟨x, rfl⟩
    have hhd : ag.headD 0 = x0 := by
      cases ag with
      | nil => cases hx0
      | cons x l => exact Option.some.inj hx0
    refine q_asg (v := nv x0) (ev_ix (i := 0) (ev_var rfl) ev_c (sq_of hpa) (nvs_at hx0)) fun H1 e1 => ?_
    refine q_forNLn (xs := nvs (ag.drop 1)) (by
      have r := el_sl (K := K) (te := tVar 1) (σ := [some (.ref p), some (.ref pa), some (nv x0), none, none, none]) (lo := some 1) (hi := none) (ev_var rfl) (eo_some (te := tC (.int 1)) ev_c) eo_none (sq_of (e1 pa _ hpa))
      have e2 := cut_from (nvs ag) 1
      rw [show ((1 : Nat) : Int) = 1 from rfl] at e2
      rw [e2, ← List.map_drop] at r
      exact r) (fun pl i σ' H' => Ex H H' ∧ H' pl = some (.lst (nvs (ag.drop 1))) ∧ (((ag.drop 1).take i).foldl (seqM rs) x0 ∈ ag) ∧ ∃ a b c : Option V, σ' = [some (.ref p), some (.ref pa), some (nv (((ag.drop 1).take i).foldl (seqM rs) x0)), a, b, c]) (fun pl H2 hpl e2 hl => ⟨e1.trans e2, hl, List.mem_of_getElem? hx0, none, none, none, rfl⟩) (fun pl i σ' H' _ z => sq_of z.2.1) ?_ ?_
    · rintro pl i y σ' H' hi ⟨e, hpl, hm, a, b, c, rfl⟩
      obtain ⟨x, hx, rfl⟩ := nvs_get hi
      have hxm : x ∈ ag := List.mem_of_mem_drop (List.mem_of_getElem? hx)
      rw [take_more hx, List.foldl_append]
      show _
      revert hm
      generalize ((ag.drop 1).take i).foldl (seqM rs) x0 = cur
      intro hm
      refine q_asgL (xs := ((qs.zip rs).filter fun d => Su193.prefers d.2 x cur).map fun d => V.ref d.1) (el_lcD (ds := qs.zip rs) (fun d => Su193.prefers d.2 x cur) (fun d => V.ref d.1) (ev_var rfl) (sq_of (e p _ h1)) (by rw [List.length_map, List.length_zip]; omega) (by rw [List.length_zip]; omega) (fun x => rfl) (fun j z d H3 e3 hz hd => ?_) (fun j z d H3 e3 hz hd _ => ?_)) fun psup H3 hps e3 hs3 => ?_
      · obtain ⟨aa, hab, rfl⟩ := rfs_get hz
        rw [List.getElem?_zip_eq_some] at hd
        obtain ⟨r, hr, hrr⟩ := h3 j aa hab
        rw [hr] at hd
        have hrd : r = d.2 := Option.some.inj hd.2
        subst hrd
        exact et_B (ev_call (ea_cons (ev_var rfl) (ea_cons (ev_var rfl) (ea_cons (ev_var rfl) ea_nil))) fun H4 e4 Q4 q4 E4 => ⟨aa, d.2, x, cur, rfl, ((e.trans e3).trans e4) aa _ hrr, hin _ (List.mem_of_getElem? hr) x hxm, hin _ (List.mem_of_getElem? hr) cur hm, q4⟩)
      · obtain ⟨aa, hab, rfl⟩ := rfs_get hz
        rw [List.getElem?_zip_eq_some] at hd
        rw [hab] at hd
        have hrd : aa = d.1 := Option.some.inj hd.1
        subst hrd
        exact ev_var rfl
      · have hcnt : (((qs.zip rs).filter fun d => Su193.prefers d.2 x cur).map fun d => V.ref d.1).length = (rs.filter fun r => Su193.prefers r x cur).length := by
          rw [List.length_map, zip_filt (fun r => Su193.prefers r x cur) qs rs h2]
        refine s_ifAsg (v := nv (seqM rs cur x)) (b := decide (rs.length < 2 * (rs.filter fun r => Su193.prefers r x cur).length)) (et_test (ev_gt (ev_mul (a := 2) ev_c (ev_is (ev_len (ev_var rfl) (sq_of hs3)) (by show V.int _ = V.int _; rw [hcnt])) (by decide)) (ev_is (ev_len (ev_var rfl) (sq_of (e3 p _ (e p _ h1)))) (by show V.int _ = V.int _; rw [List.length_map, h2])))) (fun hb => ?_) (fun hb => ?_) fun H4 e4 => ⟨(e.trans e3).trans e4, e4 pl _ (e3 pl _ hpl), ?_, some (nv x), b, some (.ref psup), rfl⟩
        · have hyes : seqM rs cur x = x := if_pos (of_decide_eq_true hb)
          rw [hyes]
          exact ev_var rfl
        · have hno : seqM rs cur x = cur := if_neg (of_decide_eq_false hb)
          rw [hno]
          rfl
        · show seqM rs cur x ∈ ag
          unfold seqM
          split
          · exact hxm
          · exact hm
    · rintro pl σ' H' ⟨e, hpl, hm, a, b, c, rfl⟩
      rw [List.length_map, List.take_length]
      refine s_ret (ev_var rfl) fun H2 e2 => ?_
      have hq := q H2 (e.trans e2)
      unfold seqMaj at hq
      rw [hhd] at hq
      exact hq
end Tc
namespace Tc
open Su193 (SocialChoice enumerateProfiles)
/-! ## Mathematics: all profiles, by their places -/
def enumL {α : Type} : List (List α) → List (List α)
  | [] => [[]]
  | ms :: l => ms.flatMap fun x => (enumL l).map fun r => x :: r
theorem fold_enum {α : Type} (xss : List (List α)) : ∀ acc : List (List α), xss.foldl (fun ch ms => ch.flatMap fun b => ms.map fun x => b ++ [x]) acc = acc.flatMap fun b => (enumL xss).map fun r => b ++ r := by
  induction xss with
  | nil =>
    intro acc
    show acc = acc.flatMap fun b => [b ++ []]
    simp
  | cons ms xss ih =>
    intro acc
    rw [List.foldl_cons, ih, List.flatMap_assoc]
    congr 1
    funext b
    show _ = (ms.flatMap fun x => (enumL xss).map fun r => x :: r).map fun r => b ++ r
    rw [List.flatMap_map, List.map_flatMap]
    congr 1
    funext x
    rw [List.map_map]
    congr 1
    funext r
    simp
theorem enum_ranges (ks : List Nat) : enumL (ks.map List.range) = enumerateProfiles ks := by
  induction ks with
  | nil => rfl
  | cons k ks ih =>
    show (List.range k).flatMap _ = (List.range k).flatMap _
    rw [ih]
theorem rangeN_getD {α : Type} (d : List α) (z : α) : (List.range d.length).map (fun j => d.getD j z) = d := by
  refine List.ext_getElem? fun i => ?_
  rw [List.getElem?_map]
  by_cases h : i < d.length
  · rw [List.getElem?_range h, List.getElem?_eq_getElem h, Option.map_some, List.getD_eq_getElem?_getD, List.getElem?_eq_getElem h]
    rfl
  · rw [List.getElem?_eq_none (by rw [List.length_range]; omega), List.getElem?_eq_none (by omega)]
    rfl
theorem enum_pick {α : Type} (z : α) (ds : List (List α)) : enumL ds = (enumerateProfiles (ds.map List.length)).map fun t => (List.range ds.length).map fun i => (ds.getD i []).getD (t.getD i 0) z := by
  induction ds with
  | nil => rfl
  | cons d ds ih =>
    show d.flatMap _ = ((List.range d.length).flatMap _).map _
    rw [List.map_flatMap]
    conv => lhs; rw [← rangeN_getD d z]
    rw [List.flatMap_map]
    congr 1
    funext j
    rw [ih, List.map_map, List.map_map]
    congr 1
    funext t
    show _ :: _ = (List.range (ds.length + 1)).map _
    rw [List.range_succ_eq_map, List.map_cons, List.map_map]
    rfl
/-! ### places -/
def prodL (ks : List Nat) : Nat := ks.foldr (fun k p => k * p) 1
def rk : List Nat → List Nat → Nat
  | k :: ks, a :: t => a * prodL ks + rk ks t
  | _, _ => 0
/-- t is a profile for these sizes -/
def isP : List Nat → List Nat → Prop
  | [], [] => True
  | k :: ks, a :: t => a < k ∧ isP ks t
  | _, _ => False
theorem isP_len : ∀ {ks t : List Nat}, isP ks t → t.length = ks.length
  | [], [], _ => rfl
  | k :: ks, a :: t, h => by rw [List.length_cons, List.length_cons, isP_len h.2]
theorem isP_at : ∀ {ks t : List Nat}, isP ks t → ∀ i, i < ks.length → t.getD i 0 < ks.getD i 0
  | k :: ks, a :: t, h, 0, _ => h.1
  | k :: ks, a :: t, h, i + 1, hi => isP_at (ks := ks) (t := t) h.2 i (by rw [List.length_cons] at hi; omega)
theorem isP_of : ∀ {ks t : List Nat}, t.length = ks.length → (∀ i, i < ks.length → t.getD i 0 < ks.getD i 0) → isP ks t
  | [], [], _, _ => trivial
  | k :: ks, a :: t, hl, h => ⟨h 0 (by simp), isP_of (by simpa using hl) fun i hi => h (i + 1) (by rw [List.length_cons]; omega)⟩
  | [], _ :: _, hl, _ => by simp at hl
  | _ :: _, [], hl, _ => by simp at hl
theorem rk_lt : ∀ {ks t : List Nat}, isP ks t → rk ks t < prodL ks
  | [], [], _ => by decide
  | k :: ks, a :: t, h => by
    have h1 := rk_lt h.2
    have h2 : (a + 1) * prodL ks ≤ k * prodL ks := Nat.mul_le_mul_right _ h.1
    show a * prodL ks + rk ks t < k * prodL ks
    rw [Nat.succ_mul] at h2
    omega
theorem flatK_len {α : Type} {L : Nat} (g : Nat → List α) (hg : ∀ i, (g i).length = L) : ∀ k, ((List.range k).flatMap g).length = k * L
  | 0 => by simp
  | k + 1 => by
    rw [List.range_succ, List.flatMap_append, List.length_append, flatK_len g hg k, List.flatMap_cons, List.flatMap_nil, List.append_nil, hg, Nat.succ_mul]
theorem flatK_at {α : Type} {L : Nat} (g : Nat → List α) (hg : ∀ i, (g i).length = L) : ∀ k a r, a < k → r < L → ((List.range k).flatMap g)[a * L + r]? = (g a)[r]?
  | 0, _, _, h, _ => absurd h (Nat.not_lt_zero _)
  | k + 1, a, r, ha, hr => by
    rw [List.range_succ, List.flatMap_append, List.flatMap_cons, List.flatMap_nil, List.append_nil]
    by_cases h : a < k
    · rw [List.getElem?_append_left]
      · exact flatK_at g hg k a r h hr
      · rw [flatK_len g hg k]
        have h2 : (a + 1) * L ≤ k * L := Nat.mul_le_mul_right _ h
        rw [Nat.succ_mul] at h2
        omega
    · have e : a = k := by omega
      subst e
      rw [List.getElem?_append_right (by rw [flatK_len g hg a]; omega), flatK_len g hg a, Nat.add_sub_cancel_left]
theorem enum_len : ∀ ks : List Nat, (enumerateProfiles ks).length = prodL ks
  | [] => rfl
  | k :: ks => by
    show ((List.range k).flatMap _).length = k * prodL ks
    refine flatK_len _ (fun i => ?_) k
    rw [List.length_map, enum_len ks]
theorem enum_at : ∀ {ks t : List Nat}, isP ks t → (enumerateProfiles ks)[rk ks t]? = some t
  | [], [], _ => rfl
  | k :: ks, a :: t, h => by
    show ((List.range k).flatMap fun x => (enumerateProfiles ks).map fun r => x :: r)[a * prodL ks + rk ks t]? = _
    rw [flatK_at (L := prodL ks) _ (fun i => by rw [List.length_map, enum_len]) k a _ h.1 (rk_lt h.2), List.getElem?_map, enum_at h.2]
    rfl
theorem enum_get : ∀ {ks t : List Nat} {n : Nat}, (enumerateProfiles ks)[n]? = some t → isP ks t ∧ rk ks t = n
  | [], t, n, h => by
    cases n with
    | zero =>
      cases h
      exact ⟨trivial, rfl⟩
    | succ n => simp [enumerateProfiles] at h
  | k :: ks, t, n, h => by
    have hn : n < k * prodL ks := by
      have := (List.getElem?_eq_some_iff.mp h).1
      rw [enum_len] at this
      exact this
    have hp : 0 < prodL ks := by
      rcases Nat.eq_zero_or_pos (prodL ks) with z | z
      · rw [z, Nat.mul_zero] at hn
        omega
      · exact z
    have e : n = (n / prodL ks) * prodL ks + n % prodL ks := by
      rw [Nat.mul_comm]
      exact (Nat.div_add_mod n (prodL ks)).symm
    have ha : n / prodL ks < k := (Nat.div_lt_iff_lt_mul hp).mpr hn
    have h2 : ((List.range k).flatMap fun x => (enumerateProfiles ks).map fun r => x :: r)[n]? = some t := h
    rw [e, flatK_at (L := prodL ks) _ (fun i => by rw [List.length_map, enum_len]) k _ _ ha (Nat.mod_lt _ hp), List.getElem?_map] at h2
    cases hr : (enumerateProfiles ks)[n % prodL ks]? with
    | none =>
      rw [hr] at h2
      cases h2
    | some r =>
      rw [hr] at h2
      have e2 := (Option.some.inj h2).symm
      subst e2
      obtain ⟨h3, h4⟩ := enum_get hr
      exact ⟨⟨ha, h3⟩, by
        show n / prodL ks * prodL ks + rk ks r = n
        rw [h4]
        exact e.symm⟩
/-- the fold over places -/
theorem fold_rk : ∀ {ks t : List Nat}, t.length = ks.length → ∀ z, (List.range ks.length).foldl (fun z i => z * ks.getD i 0 + t.getD i 0) z = z * prodL ks + rk ks t
  | [], [], _, z => by
    show z = z * 1 + 0
    omega
  | k :: ks, a :: t, hl, z => by
    rw [List.length_cons, List.range_succ_eq_map, List.foldl_cons, List.foldl_map]
    have h := fold_rk (ks := ks) (t := t) (by simpa using hl) (z * k + a)
    have h2 : (List.range ks.length).foldl (fun z i => z * (k :: ks).getD (i + 1) 0 + (a :: t).getD (i + 1) 0) (z * k + a) = (z * k + a) * prodL ks + rk ks t := h
    refine Eq.trans h2 ?_
    show _ = z * (k * prodL ks) + (a * prodL ks + rk ks t)
    rw [Nat.add_mul, Nat.mul_assoc, Nat.add_assoc]
  | [], _ :: _, hl, _ => by simp at hl
  | _ :: _, [], hl, _ => by simp at hl
/-! ### the profiles of an instance -/
section
variable {m : SocialChoice} {t : List Nat}
theorem lens_at (m : SocialChoice) (i : Nat) : (m.domains.map List.length).getD i 0 = (m.domain i).length := by
  unfold SocialChoice.domain
  rw [List.getD_eq_getElem?_getD, List.getElem?_map, List.getD_eq_getElem?_getD]
  cases m.domains[i]? with
  | none => rfl
  | some d => rfl
theorem isProf_iff (hd : m.domains.length = m.agentCount) : m.isProfile t = true ↔ isP (m.domains.map List.length) t := by
  unfold SocialChoice.isProfile SocialChoice.agents
  rw [Bool.and_eq_true, beq_iff_eq, List.all_eq_true]
  constructor
  · rintro ⟨h1, h2⟩
    refine isP_of (by rw [h1, List.length_map, hd]) fun i hi => ?_
    rw [List.length_map, hd] at hi
    rw [lens_at]
    exact of_decide_eq_true (h2 i (List.mem_range.mpr hi))
  · intro h
    refine ⟨by rw [isP_len h, List.length_map, hd], fun i hi => decide_eq_true ?_⟩
    have := isP_at h i (by rw [List.length_map, hd]; exact List.mem_range.mp hi)
    rw [lens_at] at this
    exact this
theorem pidx_rk (hd : m.domains.length = m.agentCount) (h : t.length = m.agentCount) : m.profileIndex t = rk (m.domains.map List.length) t := by
  have h2 := fold_rk (ks := m.domains.map List.length) (t := t) (by rw [List.length_map, h, hd]) 0
  rw [Nat.zero_mul, Nat.zero_add, List.length_map, hd] at h2
  refine Eq.trans ?_ h2
  unfold SocialChoice.profileIndex SocialChoice.agents
  congr 1
  funext z i
  rw [lens_at]
  rfl
theorem prof_at (hd : m.domains.length = m.agentCount) (h : m.isProfile t = true) : m.profiles[m.profileIndex t]? = some t := by
  have hp := (isProf_iff hd).mp h
  rw [pidx_rk hd (by rw [isP_len hp, List.length_map, hd])]
  exact enum_at hp
theorem prof_get (hd : m.domains.length = m.agentCount) {n : Nat} (h : m.profiles[n]? = some t) : m.isProfile t = true ∧ m.profileIndex t = n := by
  obtain ⟨h1, h2⟩ := enum_get h
  exact ⟨(isProf_iff hd).mpr h1, by rw [pidx_rk hd (by rw [isP_len h1, List.length_map, hd]), h2]⟩
end
end Tc
namespace Tc
open Su193 (SocialChoice)
/-! ## Mathematics: the instance -/
structure WF (m : SocialChoice) : Prop where
  n1 : 1 ≤ m.agentCount
  n3 : m.agentCount ≤ 3
  k2 : 2 ≤ m.alternativeCount
  k4 : m.alternativeCount ≤ 4
  dl : m.domains.length = m.agentCount
  d6 : ∀ d ∈ m.domains, d.length ≤ 6
  pr : ∀ d ∈ m.domains, ∀ r ∈ d, Su193.isPreference m.alternativeCount r = true
  ol : m.outcomes.length = m.profiles.length
  ob : ∀ x ∈ m.outcomes, x < m.alternativeCount
theorem sm_doms {m : SocialChoice} (W : WF m) : Sm m.domains := ⟨by rw [W.dl]; exact W.n3, W.d6⟩
theorem is_profile {m : SocialChoice} (W : WF m) {t : List Nat} (h : t.length = m.agentCount) : ((t.zip m.domains).map fun d => decide (d.1 < d.2.length)).all id = m.isProfile t := by
  rw [Bool.eq_iff_iff, isProf_iff W.dl, List.all_eq_true]
  have hd := W.dl
  constructor
  · intro hz
    refine isP_of (by rw [h, List.length_map, hd]) fun i hi => ?_
    rw [List.length_map] at hi
    have hti : i < t.length := by omega
    have hz2 := hz (decide (t[i] < m.domains[i].length)) (List.mem_map.mpr ⟨(t[i], m.domains[i]), ?_, rfl⟩)
    · have hz3 : t[i] < m.domains[i].length := of_decide_eq_true hz2
      rw [List.getD_eq_getElem?_getD, List.getElem?_eq_getElem hti, List.getD_eq_getElem?_getD, List.getElem?_map, List.getElem?_eq_getElem hi]
      exact hz3
    · rw [List.mem_iff_getElem?]
      refine ⟨i, ?_⟩
      rw [List.getElem?_zip_eq_some]
      exact ⟨List.getElem?_eq_getElem hti, List.getElem?_eq_getElem hi⟩
  · intro hp x hx
    obtain ⟨z, hz, rfl⟩ := List.mem_map.mp hx
    obtain ⟨i, hi⟩ := List.mem_iff_getElem?.mp hz
    rw [List.getElem?_zip_eq_some] at hi
    have hil : i < m.domains.length := (List.getElem?_eq_some_iff.mp hi.2).1
    have h2 := isP_at hp i (by rw [List.length_map]; exact hil)
    rw [List.getD_eq_getElem?_getD, hi.1, List.getD_eq_getElem?_getD, List.getElem?_map, hi.2] at h2
    exact decide_eq_true h2
theorem choose_enum {α : Type} (xss : List (List α)) : choose xss = enumL xss := by
  unfold choose
  rw [fold_enum]
  simp
theorem choose_profiles (m : SocialChoice) : choose (m.domains.map fun d => List.range d.length) = m.profiles := by
  rw [choose_enum]
  unfold SocialChoice.profiles
  rw [← enum_ranges, List.map_map]
  rfl
theorem choose_reps (m : SocialChoice) (h : m.domains.length = m.agentCount) : choose m.domains = m.profiles.map fun t => m.agents.map fun i => m.reported i t := by
  rw [choose_enum, enum_pick [], h]
  rfl
def pidx (m : SocialChoice) (t : List Nat) (i : Nat) : Nat := (List.range i).foldl (fun z i => z * (m.domains.getD i []).length + t.getD i 0) 0
theorem pidx_all (m : SocialChoice) (t : List Nat) : pidx m t m.agentCount = m.profileIndex t := rfl
theorem dom6 {m : SocialChoice} (W : WF m) (i : Nat) : (m.domain i).length ≤ 6 := by
  unfold SocialChoice.domain
  rw [List.getD_eq_getElem?_getD]
  cases h : m.domains[i]? with
  | none => exact Nat.zero_le _
  | some d => exact W.d6 d (List.mem_of_getElem? h)
theorem pidx_lt {m : SocialChoice} (W : WF m) {t : List Nat} (h : m.isProfile t = true) : ∀ i, i ≤ m.agentCount → pidx m t i < 6 ^ i
  | 0, _ => Nat.one_pos
  | i + 1, hi => by
    have h1 := pidx_lt W h i (by omega)
    have hp := isP_at ((isProf_iff W.dl).mp h) i (by rw [List.length_map, W.dl]; omega)
    rw [lens_at] at hp
    have h6 := dom6 W i
    have e : pidx m t (i + 1) = pidx m t i * (m.domain i).length + t.getD i 0 := by
      unfold pidx
      rw [List.range_succ, List.foldl_append]
      rfl
    rw [e, Nat.pow_succ]
    have h2 : (pidx m t i + 1) * (m.domain i).length ≤ 6 ^ i * (m.domain i).length := Nat.mul_le_mul_right _ h1
    have h3 : 6 ^ i * (m.domain i).length ≤ 6 ^ i * 6 := Nat.mul_le_mul_left _ h6
    rw [Nat.succ_mul] at h2
    omega
def stepN (m : SocialChoice) (i : Nat) (j : Nat) : Nat := ((m.domains.drop (i + 1)).take j).foldl (fun s d => s * d.length) 1
theorem fold_prod (ds : List (List (List Nat))) : ∀ z, ds.foldl (fun s d => s * d.length) z = z * prodL (ds.map List.length) := by
  induction ds with
  | nil => exact fun z => (Nat.mul_one z).symm
  | cons d ds ih =>
    intro z
    rw [List.foldl_cons, ih, Nat.mul_assoc]
    rfl
theorem prod_le : ∀ {ks : List Nat}, (∀ k ∈ ks, k ≤ 6) → prodL ks ≤ 6 ^ ks.length
  | [], _ => by decide
  | k :: ks, h => by
    show k * prodL ks ≤ 6 ^ (ks.length + 1)
    rw [Nat.pow_succ, Nat.mul_comm (6 ^ ks.length)]
    exact Nat.mul_le_mul (h k (List.mem_cons_self ..)) (prod_le fun x hx => h x (List.mem_cons_of_mem _ hx))
theorem stepN_le {m : SocialChoice} (W : WF m) (i j : Nat) : stepN m i j ≤ 216 := by
  unfold stepN
  rw [fold_prod, Nat.one_mul]
  refine Nat.le_trans (prod_le fun k hk => ?_) ?_
  · obtain ⟨d, hd, rfl⟩ := List.mem_map.mp hk
    exact W.d6 d (List.mem_of_mem_drop (List.mem_of_mem_take hd))
  · have h1 : (((m.domains.drop (i + 1)).take j).map List.length).length ≤ 3 := by
      rw [List.length_map, List.length_take, List.length_drop, W.dl]
      have := W.n3
      omega
    exact Nat.pow_le_pow_right (by decide) h1
theorem isProfile_len {m : SocialChoice} {t : List Nat} (h : m.isProfile t = true) : t.length = m.agentCount := by
  unfold SocialChoice.isProfile at h
  rw [Bool.and_eq_true] at h
  simpa using h.1
theorem isProfile_lt {m : SocialChoice} {t : List Nat} (h : m.isProfile t = true) {i : Nat} (hi : i < m.agentCount) : t.getD i 0 < (m.domain i).length := by
  unfold SocialChoice.isProfile at h
  rw [Bool.and_eq_true] at h
  have := List.all_eq_true.mp h.2 i (List.mem_range.mpr hi)
  simpa using this
theorem place_lt {m : SocialChoice} (W : WF m) {t : List Nat} (h : m.isProfile t = true) : m.profileIndex t < m.profiles.length := (List.getElem?_eq_some_iff.mp (prof_at W.dl h)).1
theorem rk_set : ∀ {ks t : List Nat} {i k : Nat}, isP ks t → i < ks.length → rk ks (t.set i k) + t.getD i 0 * prodL (ks.drop (i + 1)) = rk ks t + k * prodL (ks.drop (i + 1))
  | c :: ks, a :: t, 0, k, h, _ => by
    show k * prodL ks + rk ks t + a * prodL ks = a * prodL ks + rk ks t + k * prodL ks
    omega
  | c :: ks, a :: t, i + 1, k, h, hi => by
    have h2 := rk_set (i := i) (k := k) h.2 (by rw [List.length_cons] at hi; omega)
    show a * prodL ks + rk ks (t.set i k) + t.getD i 0 * prodL (ks.drop (i + 1)) = a * prodL ks + rk ks t + k * prodL (ks.drop (i + 1))
    omega
theorem isP_drop : ∀ {ks t : List Nat} (j : Nat), isP ks t → isP (ks.drop j) (t.drop j)
  | [], [], j, _ => by cases j <;> exact trivial
  | c :: ks, a :: t, 0, h => h
  | c :: ks, a :: t, j + 1, h => isP_drop (ks := ks) (t := t) j h.2
theorem isP_set : ∀ {ks t : List Nat} {i k : Nat}, isP ks t → k < ks.getD i 0 → isP ks (t.set i k)
  | [], [], _, _, _, hk => by
    rw [List.getD_nil] at hk
    omega
  | c :: ks, a :: t, 0, k, h, hk => ⟨hk, h.2⟩
  | c :: ks, a :: t, i + 1, k, h, hk => ⟨h.1, isP_set h.2 hk⟩
theorem filterMap_all {α β : Type} {f : α → Option β} {g : α → β} : ∀ {l : List α}, (∀ x ∈ l, f x = some (g x)) → l.filterMap f = l.map g
  | [], _ => rfl
  | x :: l, h => by
    rw [List.filterMap_cons, h x (List.mem_cons_self ..), List.map_cons, filterMap_all fun y hy => h y (List.mem_cons_of_mem _ hy)]
open PySem in
/-- a slice by steps of s, that takes n items -/
theorem pick_steps {xs : List Nat} {a s n : Nat} (hs : 0 < s) (hn : 0 < n) (h : a + (n - 1) * s < xs.length) : pickV xs (some (a : Int)) (some ((a + n * s : Nat) : Int)) (s : Int) = (List.range n).map fun k => xs.getD (a + k * s) 0 := by
  have e1 : (n - 1) * s + s = n * s := by
    rw [← Nat.succ_mul]
    congr 1
    omega
  have hb : sliceBounds (some (a : Int)) (some ((a + n * s : Nat) : Int)) (some (s : Int)) xs.length = ((a : Int), ((min (a + n * s) xs.length : Nat) : Int), (s : Int)) := by
    unfold sliceBounds
    have hs2 : (s : Int) > 0 := by omega
    simp only [Option.getD_some, if_pos hs2]
    rw [if_neg (by omega), if_neg (by omega)]
    refine Prod.ext ?_ (Prod.ext ?_ rfl)
    · show max 0 (min (a : Int) (xs.length : Int)) = (a : Int)
      omega
    · show max 0 (min ((a + n * s : Nat) : Int) (xs.length : Int)) = ((min (a + n * s) xs.length : Nat) : Int)
      omega
  have hc : (((((min (a + n * s) xs.length : Nat) : Int) - (a : Int) + (s : Int) - 1) / (s : Int))).toNat = n := by
    obtain ⟨d, hd⟩ : ∃ d : Nat, min (a + n * s) xs.length = a + d := ⟨min (a + n * s) xs.length - a, by omega⟩
    have e3 : ((min (a + n * s) xs.length : Nat) : Int) - (a : Int) + (s : Int) - 1 = ((d + s - 1 : Nat) : Int) := by
      rw [hd]
      omega
    rw [e3, ← Int.natCast_ediv, Int.toNat_natCast]
    refine Nat.div_eq_of_lt_le ?_ ?_
    · omega
    · rw [Nat.succ_mul]
      omega
  unfold pickV
  rw [hb]
  dsimp only
  unfold sliceRange
  dsimp only
  rw [if_pos (by omega), if_pos (by omega), hc, List.filterMap_map]
  refine filterMap_all fun k hk => ?_
  have hk2 := List.mem_range.mp hk
  have h3 : k * s ≤ (n - 1) * s := Nat.mul_le_mul_right _ (by omega)
  have e2 : ((a : Int) + (s : Int) * (k : Int)).toNat = a + k * s := by
    rw [← Int.natCast_mul, ← Int.natCast_add, Int.toNat_natCast, Nat.mul_comm]
  show xs[((a : Int) + (s : Int) * (k : Int)).toNat]? = some _
  rw [e2, List.getD_eq_getElem?_getD, List.getElem?_eq_getElem (by omega)]
  rfl
theorem options_pick {m : SocialChoice} (W : WF m) {t : List Nat} (h : m.isProfile t = true) {i : Nat} (hi : i < m.agentCount) :
    t.getD i 0 * stepN m i m.agentCount ≤ m.profileIndex t ∧ 0 < stepN m i m.agentCount ∧
    pickV m.outcomes (some ((m.profileIndex t - t.getD i 0 * stepN m i m.agentCount : Nat) : Int)) (some ((m.profileIndex t - t.getD i 0 * stepN m i m.agentCount + (m.domain i).length * stepN m i m.agentCount : Nat) : Int)) ((stepN m i m.agentCount : Nat) : Int) = m.options i t := by
  have hp := (isProf_iff W.dl).mp h
  have hdl := W.dl
  have hil : i < (m.domains.map List.length).length := by rw [List.length_map, hdl]; exact hi
  have hS : stepN m i m.agentCount = prodL ((m.domains.map List.length).drop (i + 1)) := by
    unfold stepN
    rw [fold_prod, Nat.one_mul, List.take_of_length_le (by rw [List.length_drop, hdl]; omega), List.map_drop]
  have hx : m.profileIndex t = rk (m.domains.map List.length) t := pidx_rk hdl (by rw [isP_len hp, List.length_map, hdl])
  have hti := isP_at hp i hil
  rw [lens_at] at hti
  have dev : ∀ k, k < (m.domain i).length → m.profileIndex (Su193.deviate t i k) + t.getD i 0 * stepN m i m.agentCount = m.profileIndex t + k * stepN m i m.agentCount ∧ m.isProfile (Su193.deviate t i k) = true := fun k hk => by
    have hp2 : isP (m.domains.map List.length) (t.set i k) := isP_set hp (by rw [lens_at]; exact hk)
    refine ⟨?_, (isProf_iff hdl).mpr hp2⟩
    rw [hS, hx]
    unfold Su193.deviate
    rw [pidx_rk hdl (by rw [isP_len hp2, List.length_map, hdl])]
    exact rk_set hp hil
  have h0 : 0 < stepN m i m.agentCount := by
    rw [hS]
    exact Nat.lt_of_le_of_lt (Nat.zero_le _) (rk_lt (isP_drop (i + 1) hp))
  have hle : t.getD i 0 * stepN m i m.agentCount ≤ m.profileIndex t := by
    have := (dev 0 (by omega)).1
    omega
  refine ⟨hle, h0, ?_⟩
  have hlast := dev ((m.domain i).length - 1) (by omega)
  have hlt := place_lt W hlast.2
  rw [← W.ol] at hlt
  rw [pick_steps h0 (by omega) (by omega)]
  unfold SocialChoice.options
  refine List.map_congr_left fun k hk => ?_
  have hk2 := (dev k (List.mem_range.mp hk)).1
  unfold SocialChoice.outcome
  congr 1
  omega
theorem profiles_len {m : SocialChoice} (W : WF m) : m.profiles.length ≤ 216 := by
  have h := choose_216 (xss := m.domains.map fun d => List.range d.length) (i := m.domains.length) ⟨by rw [List.length_map, W.dl]; exact W.n3, fun ms hm => by
    obtain ⟨d, hd, rfl⟩ := List.mem_map.mp hm
    rw [List.length_range]
    exact W.d6 d hd⟩ (by rw [List.length_map]; exact Nat.le_refl _)
  rw [List.take_of_length_le (by rw [List.length_map]; exact Nat.le_refl _), choose_profiles] at h
  exact h
theorem isReady_any (m : SocialChoice) : (!m.domains.any fun d => d.isEmpty) = m.isReady := by
  unfold SocialChoice.isReady
  induction m.domains with
  | nil => rfl
  | cons d l ih => rw [List.any_cons, List.all_cons, Bool.not_or, ih]
theorem choose_map {α β : Type} (f : α → β) (xss : List (List α)) : choose (xss.map fun l => l.map f) = (choose xss).map fun l => l.map f := by
  have main : ∀ (xss : List (List α)) (acc : List (List α)), (xss.map fun l => l.map f).foldl (fun ch ms => ch.flatMap fun b => ms.map fun x => b ++ [x]) (acc.map fun l => l.map f) = (xss.foldl (fun ch ms => ch.flatMap fun b => ms.map fun x => b ++ [x]) acc).map fun l => l.map f := by
    intro xss
    induction xss with
    | nil => intro acc; rfl
    | cons ms xss ih =>
      intro acc
      rw [List.map_cons, List.foldl_cons, List.foldl_cons, ← ih]
      congr 1
      induction acc with
      | nil => rfl
      | cons b acc ih2 =>
        rw [List.map_cons, List.flatMap_cons, List.flatMap_cons, List.map_append, ih2]
        congr 1
        rw [List.map_map, List.map_map]
        refine List.map_congr_left fun x _ => ?_
        show _ = (b ++ [x]).map f
        rw [List.map_append]
        rfl
  exact main xss [[]]
end Tc
namespace Tc
/-! ## Mathematics: masks -/
theorem maskL_bit (l : List Nat) (i : Nat) : (maskL l).testBit i = decide (i ∈ l) := by
  have main : ∀ (l : List Nat) (b : Nat), (l.foldl (fun m x => m ||| 1 * 2 ^ x) b).testBit i = (b.testBit i || decide (i ∈ l)) := by
    intro l
    induction l with
    | nil =>
      intro b
      simp
    | cons x l ih =>
      intro b
      rw [List.foldl_cons, ih, Nat.one_mul, Nat.testBit_or, Nat.testBit_two_pow, Bool.or_assoc]
      congr 1
      rw [Bool.eq_iff_iff]
      simp only [Bool.or_eq_true, decide_eq_true_eq, List.mem_cons]
      constructor
      · rintro (h | h)
        · exact .inl h.symm
        · exact .inr h
      · rintro (h | h)
        · exact .inl h.symm
        · exact .inr h
  unfold maskL
  rw [main, Nat.zero_testBit, Bool.false_or]
theorem maskL_same {l l2 : List Nat} (h : ∀ x, x ∈ l ↔ x ∈ l2) : maskL l = maskL l2 := Nat.eq_of_testBit_eq fun i => by
  rw [maskL_bit, maskL_bit]
  exact decide_eq_decide.mpr (h i)
theorem maskL_sub {l l2 : List Nat} : maskL l &&& maskL l2 = maskL l ↔ ∀ x ∈ l, x ∈ l2 := by
  constructor
  · intro h x hx
    have h2 := congrArg (fun z => Nat.testBit z x) h
    simp only [Nat.testBit_and, maskL_bit] at h2
    simpa [hx] using h2
  · intro h
    refine Nat.eq_of_testBit_eq fun i => ?_
    rw [Nat.testBit_and, maskL_bit, maskL_bit]
    by_cases hi : i ∈ l
    · simp [hi, h i hi]
    · simp [hi]
theorem join_sub {k j j2 a b : Nat} (ha : a < 2 ^ k) (hb : b < 2 ^ k) : ((j * 2 ^ k ||| a) &&& (j2 * 2 ^ k ||| b) = (j * 2 ^ k ||| a)) ↔ (j &&& j2 = j ∧ a &&& b = a) := by
  have bit : ∀ (x z i : Nat), z < 2 ^ k → (x * 2 ^ k ||| z).testBit i = if i < k then z.testBit i else x.testBit (i - k) := fun x z i hz => by
    rw [Nat.mul_comm, ← Nat.two_pow_add_eq_or_of_lt hz, Nat.testBit_two_pow_mul_add _ hz]
  constructor
  · intro h
    have hi : ∀ i, ((j * 2 ^ k ||| a).testBit i && (j2 * 2 ^ k ||| b).testBit i) = (j * 2 ^ k ||| a).testBit i := fun i => by
      rw [← Nat.testBit_and, h]
    refine ⟨Nat.eq_of_testBit_eq fun i => ?_, Nat.eq_of_testBit_eq fun i => ?_⟩
    · have h2 := hi (i + k)
      rw [bit _ _ _ ha, bit _ _ _ hb, if_neg (by omega), if_neg (by omega), Nat.add_sub_cancel] at h2
      rw [Nat.testBit_and]
      exact h2
    · rw [Nat.testBit_and]
      by_cases hk : i < k
      · have h2 := hi i
        rw [bit _ _ _ ha, bit _ _ _ hb, if_pos hk, if_pos hk] at h2
        exact h2
      · rw [Nat.testBit_lt_two_pow (x := a) (Nat.lt_of_lt_of_le ha (Nat.pow_le_pow_right (by decide) (by omega))), Bool.false_and]
  · rintro ⟨h1, h2⟩
    refine Nat.eq_of_testBit_eq fun i => ?_
    rw [Nat.testBit_and, bit _ _ _ ha, bit _ _ _ hb]
    split
    · rw [← Nat.testBit_and, h2]
    · rw [← Nat.testBit_and, h1]
theorem add_or {M x : Nat} (h : M.testBit x = false) : 2 ^ x + M = M ||| 2 ^ x := by
  have e0 : M = 2 ^ (x + 1) * (M / 2 ^ (x + 1)) + M % 2 ^ (x + 1) := (Nat.div_add_mod ..).symm
  have hl : M % 2 ^ (x + 1) < 2 ^ x := by
    refine Nat.lt_pow_two_of_testBit _ fun i hi => ?_
    rw [Nat.testBit_mod_two_pow]
    by_cases h2 : i = x
    · rw [h2, h, Bool.and_false]
    · rw [decide_eq_false (by omega), Bool.false_and]
  revert e0 hl
  generalize M / 2 ^ (x + 1) = q
  generalize M % 2 ^ (x + 1) = l
  intro e0 hl
  have h1 : l < 2 ^ (x + 1) := by rw [Nat.pow_succ]; omega
  have h2 : 2 ^ x * 1 + l < 2 ^ (x + 1) := by rw [Nat.pow_succ]; omega
  have e1 : M = 2 ^ (x + 1) * q ||| l := by rw [e0, Nat.two_pow_add_eq_or_of_lt h1]
  have e2 : 2 ^ x + M = 2 ^ (x + 1) * q + (2 ^ x * 1 + l) := by omega
  rw [e2, Nat.two_pow_add_eq_or_of_lt h2, Nat.two_pow_add_eq_or_of_lt hl, e1, Nat.mul_one, Nat.or_assoc, Nat.or_comm l]
theorem sum_pow : ∀ {l : List Nat}, l.Nodup → (l.map fun x => 2 ^ x).sum = maskL l
  | [], _ => rfl
  | x :: l, h => by
    rw [List.nodup_cons] at h
    rw [List.map_cons, List.sum_cons, sum_pow h.2, add_or (by rw [maskL_bit]; exact decide_eq_false h.1)]
    refine Nat.eq_of_testBit_eq fun i => ?_
    rw [Nat.testBit_or, maskL_bit, maskL_bit, Nat.testBit_two_pow, Bool.eq_iff_iff]
    simp only [Bool.or_eq_true, decide_eq_true_eq, List.mem_cons]
    constructor
    · rintro (h | h)
      · exact .inr h
      · exact .inl h.symm
    · rintro (h | h)
      · exact .inr h.symm
      · exact .inl h
theorem dups_nodup : ∀ (n : Nat) (l : List Nat), l.length ≤ n → l.eraseDups.Nodup
  | _, [], _ => by simp
  | 0, _ :: _, h => by simp at h
  | n + 1, x :: l, h => by
    rw [List.eraseDups_cons, List.nodup_cons]
    refine ⟨fun hm => ?_, dups_nodup n _ (Nat.le_trans (List.length_filter_le ..) (by rw [List.length_cons] at h; omega))⟩
    rw [List.mem_eraseDups, List.mem_filter] at hm
    simp at hm
theorem maskL_of (l : List Nat) : maskL l = Su193.maskOf l := by
  unfold Su193.maskOf
  rw [sum_pow (dups_nodup _ l (Nat.le_refl _))]
  exact maskL_same fun x => List.mem_eraseDups.symm
/-! ## Mathematics: the most, the lowest of them -/
/-- the fold that keeps the first of the highest -/
def best (f : Nat → Nat) (k : Nat) : Nat := (List.range k).foldl (fun b x => if f b < f x then x else b) 0
theorem best_is (f : Nat → Nat) : ∀ k, best f k ≤ k - 1 ∧ (∀ x, x < k → f x ≤ f (best f k)) ∧ ∀ x, x < best f k → f x < f (best f k)
  | 0 => ⟨Nat.le_refl _, fun x h => absurd h (Nat.not_lt_zero _), fun x h => absurd h (Nat.not_lt_zero _)⟩
  | k + 1 => by
    obtain ⟨h1, h2, h3⟩ := best_is f k
    have e : best f (k + 1) = if f (best f k) < f k then k else best f k := by
      unfold best
      rw [List.range_succ, List.foldl_append]
      rfl
    rw [e]
    split
    · rename_i h
      refine ⟨by omega, fun x hx => ?_, fun x hx => ?_⟩
      · by_cases hxk : x = k
        · rw [hxk]
          exact Nat.le_refl _
        · have := h2 x (by omega)
          omega
      · have := h2 x hx
        omega
    · rename_i h
      refine ⟨by omega, fun x hx => ?_, h3⟩
      by_cases hxk : x = k
      · rw [hxk]
        omega
      · exact h2 x (by omega)
theorem best_low {s : List Nat} (h0 : s ≠ []) {f : Nat → Nat} (hf : ∀ x, x < s.length → f x = s.getD x 0) : lowMost s = best f s.length := by
  obtain ⟨h1, h2, h3⟩ := best_is f s.length
  have hp : 0 < s.length := List.length_pos_iff.mpr h0
  have hb : best f s.length < s.length := by omega
  have hm : mx s = s.getD (best f s.length) 0 := by
    have a1 : s.getD (best f s.length) 0 ≤ mx s := (mx_ge s 0).2 _ (List.mem_of_getElem? (getD_at hb))
    have a2 : mx s ≤ s.getD (best f s.length) 0 := by
      obtain ⟨i, hi⟩ := List.getElem?_of_mem (mx_in h0)
      have hil : i < s.length := (List.getElem?_eq_some_iff.mp hi).1
      rw [getD_at hil] at hi
      have e := Option.some.inj hi
      rw [← e, ← hf i hil, ← hf _ hb]
      exact h2 i hil
    omega
  unfold lowMost
  rw [hm]
  have hlt : s.idxOf (s.getD (best f s.length) 0) < s.length := List.idxOf_lt_length_of_mem (List.mem_of_getElem? (getD_at hb))
  have hv : s.getD (s.idxOf (s.getD (best f s.length) 0)) 0 = s.getD (best f s.length) 0 := by
    have e := getD_at hlt
    rw [List.getElem?_eq_getElem hlt, List.getElem_idxOf] at e
    exact (Option.some.inj e).symm
  rcases Nat.lt_trichotomy (s.idxOf (s.getD (best f s.length) 0)) (best f s.length) with h | h | h
  · have := h3 _ h
    rw [hf _ hlt, hf _ hb, hv] at this
    omega
  · exact h
  · have h4 := List.not_of_lt_findIdx (p := (· == s.getD (best f s.length) 0)) (xs := s) (i := best f s.length) h
    have e : s[best f s.length] = s.getD (best f s.length) 0 := by
      have := getD_at hb
      rw [List.getElem?_eq_getElem hb] at this
      exact Option.some.inj this
    rw [e] at h4
    simp at h4
end Tc
namespace Tc
open PySem PySem.Spec PyProof.Rows L2 Evl
open Su193 (SocialChoice)

/-! ## The instance in the heap: what may change stands apart -/
def but (H : Hp) (L : List Addr) : Hp := fun x => if x ∈ L then none else H x
theorem but_ex (H : Hp) (L : List Addr) : Ex (but H L) H := fun x o h => by
  unfold but at h
  split at h
  · cases h
  · exact h
theorem but_at {H : Hp} {L : List Addr} {x : Addr} (h : x ∉ L) : but H L x = H x := if_neg h
theorem but_mono {H H' : Hp} {L : List Addr} (e : Ex H H') : Ex (but H L) (but H' L) := fun x o h => by
  unfold but at h ⊢
  split at h
  · cases h
  · rename_i hx
    rw [if_neg hx]
    exact e x o h
def iF (m : SocialChoice) (D O : Addr) : List (Str × V) := [("agent_count", nv m.agentCount), ("alternative_count", nv m.alternativeCount), ("domains", .ref D), ("outcomes", .ref O)]
theorem iF_n (m : SocialChoice) (D O : Addr) : (iF m D O).lookup ("agent_count" : Str) = some (nv m.agentCount) := rfl
theorem iF_k (m : SocialChoice) (D O : Addr) : (iF m D O).lookup ("alternative_count" : Str) = some (nv m.alternativeCount) := rfl
theorem iF_D (m : SocialChoice) (D O : Addr) : (iF m D O).lookup ("domains" : Str) = some (.ref D) := rfl
theorem iF_O (m : SocialChoice) (D O : Addr) : (iF m D O).lookup ("outcomes" : Str) = some (.ref O) := rfl
theorem iF_putO (m : SocialChoice) (D O O' : Addr) : putF "outcomes" (.ref O') (iF m D O) = iF m D O' := rfl
structure InstAt (CI : Addr) (H : Hp) (a D O : Addr) (m : SocialChoice) : Prop where
  at_ : ∃ dx, H a = some (.ins CI dx (iF m D O))
  outs : H O = some (.lst (nvs m.outcomes))
  dne : D ≠ O
  doms : ∃ ds : List Addr, H D = some (.lst (rfs ds)) ∧ Paired (LLN (but H [a, D, O])) ds m.domains
section
variable {P : Program} {w : World} {K : PySem.W.Frag} {mg : Str → Option Value} {base : Heap} {σ : L2.St} {H H' : Hp} {ta : TE} {a D O : Addr} {m : SocialChoice} {v : V}
theorem InstAt.mono {CI : Addr} (e : Ex H H') (I : InstAt CI H a D O m) : InstAt CI H' a D O m := by
  obtain ⟨⟨dx, h1⟩, h2, h3, ds, h4, h5⟩ := I
  exact ⟨⟨dx, e a _ h1⟩, e O _ h2, h3, ds, e D _ h4, pmono (fun a b h => LLN.mono (but_mono e) h) h5⟩
theorem ev_n (T : Txt K mg) (I : InstAt T.aI H a D O m) (h : Ev ta σ H (.ref a)) : Ev (tFld K ta "agent_count") σ H (nv m.agentCount) := by
  obtain ⟨dx, h1⟩ := I.at_
  exact ev_fld h h1 T.cI T.nI_agent_count (iF_n m D O)
theorem ev_k (T : Txt K mg) (I : InstAt T.aI H a D O m) (h : Ev ta σ H (.ref a)) : Ev (tFld K ta "alternative_count") σ H (nv m.alternativeCount) := by
  obtain ⟨dx, h1⟩ := I.at_
  exact ev_fld h h1 T.cI T.nI_alternative_count (iF_k m D O)
theorem ev_D (T : Txt K mg) (I : InstAt T.aI H a D O m) (h : Ev ta σ H (.ref a)) : Ev (tFld K ta "domains") σ H (.ref D) := by
  obtain ⟨dx, h1⟩ := I.at_
  exact ev_fld h h1 T.cI T.nI_domains (iF_D m D O)
theorem ev_O (T : Txt K mg) (I : InstAt T.aI H a D O m) (h : Ev ta σ H (.ref a)) : Ev (tFld K ta "outcomes") σ H (.ref O) := by
  obtain ⟨dx, h1⟩ := I.at_
  exact ev_fld h h1 T.cI T.nI_outcomes (iF_O m D O)
/-- a list of lists of lists of numbers -/
theorem InstAt.list {CI : Addr} (I : InstAt CI H a D O m) : ∃ ds : List Addr, H D = some (.lst (rfs ds)) ∧ ds.length = m.domains.length ∧ ∀ (i : Nat) (d : Addr), ds[i]? = some d → ∃ rs, m.domains[i]? = some rs ∧ LLN H d rs := by
  obtain ⟨ds, h1, h2⟩ := I.doms
  refine ⟨ds, h1, plen h2, fun i d hd => ?_⟩
  obtain ⟨rs, hrs, hl⟩ := pget' h2 hd
  exact ⟨rs, hrs, LLN.mono (but_ex H _) hl⟩
/-- a method of the instance, called -/
theorem ev_im (T : Txt K mg) {mt : Str} {sp : Sp} {vs : List V} {tas : TA} (I : InstAt T.aI H a D O m) (h : Ev ta σ H (.ref a)) (ht : EvA tas σ H vs) (hs : SpV sp (.ref a :: (vs ++ [])) H v) (hm : (iF m D O).lookup mt = none := by rfl) :
    Ev (tMeth T.aI mt sp [] C8.E0 ta tas) σ H v := by
  obtain ⟨dx, h1⟩ := I.at_
  exact ev_meth h h1 hm ht hs
theorem el_im (T : Txt K mg) {mt : Str} {sp : Sp} {vs xs : List V} {tas : TA} (I : InstAt T.aI H a D O m) (h : Ev ta σ H (.ref a)) (ht : EvA tas σ H vs) (hs : SpL sp (.ref a :: (vs ++ [])) H xs) (hm : (iF m D O).lookup mt = none := by rfl) :
    EvL (tMeth T.aI mt sp [] C8.E0 ta tas) σ H xs := by
  obtain ⟨dx, h1⟩ := I.at_
  exact el_meth h h1 hm ht hs
theorem ep_im (T : Txt K mg) {mt : Str} {sp : Sp} {vs : List V} {tas : TA} {Pr : V → Hp → Prop} (I : InstAt T.aI H a D O m) (h : Ev ta σ H (.ref a)) (ht : EvA tas σ H vs) (hs : SpP sp (.ref a :: (vs ++ [])) H Pr) (hm : (iF m D O).lookup mt = none := by rfl) :
    EvP (tMeth T.aI mt sp [] C8.E0 ta tas) σ H Pr := by
  obtain ⟨dx, h1⟩ := I.at_
  exact ep_meth h h1 hm ht hs

/-! ### has_agent, has_alternative, is_ready, has_profile -/
abbrev s_Instance_has_agent : Stmt := inClass (topS 7) 2
theorem sc_Instance_has_agent : FnScope ["self", "agent"] ["self", "agent"] (C8.fnScope (inClass (topS 7) 2)) := C8.fnScope_by (by decide +kernel)
def sp_Instance_has_agent (CI : Addr) : Sp := fun vs H Q _ => ∃ (a D O : Addr) (m : SocialChoice) (i : Nat), vs = [.ref a, nv i] ∧ InstAt CI H a D O m ∧ RetV (.bl (decide (i < m.agentCount))) H Q
theorem met_has_agent (T : Txt K mg) {f : Addr} {fd : FuncData} (F : C8.Fun K "has_agent" "Instance.has_agent" s_Instance_has_agent f fd) (b : Binds K fd ["self", "agent"] []) (me : Meth K T.aI "has_agent" f) : C8.Met P w K mg base 1 T.aI "has_agent" (sp_Instance_has_agent T.aI) [] := by
  refine C8.met0 T.cI me F b sc_Instance_has_agent (fun vs H Q E h => ?_) (fun cdv A outer s H vs Q E hr h => ⟨_, (pss_one (ps_ret (pe_cmpR op_lt (pv 1) (pe_fld (pv 0) rfl) (nomark _)))), ?_⟩)
  · obtain ⟨a, D, O, m, i, rfl, _⟩ := h
    rfl
  · obtain ⟨a, D, O, m, i, rfl, hI, q⟩ := h
    exact s_ret (ev_lt (ev_var rfl) (ev_n T hI (ev_var rfl))) fun H1 e => q H1 e
abbrev s_Instance_has_alternative : Stmt := inClass (topS 7) 3
theorem sc_Instance_has_alternative : FnScope ["self", "alternative"] ["self", "alternative"] (C8.fnScope (inClass (topS 7) 3)) := C8.fnScope_by (by decide +kernel)
def sp_Instance_has_alternative (CI : Addr) : Sp := fun vs H Q _ => ∃ (a D O : Addr) (m : SocialChoice) (i : Nat), vs = [.ref a, nv i] ∧ InstAt CI H a D O m ∧ RetV (.bl (decide (i < m.alternativeCount))) H Q
theorem met_has_alternative (T : Txt K mg) {f : Addr} {fd : FuncData} (F : C8.Fun K "has_alternative" "Instance.has_alternative" s_Instance_has_alternative f fd) (b : Binds K fd ["self", "alternative"] []) (me : Meth K T.aI "has_alternative" f) : C8.Met P w K mg base 1 T.aI "has_alternative" (sp_Instance_has_alternative T.aI) [] := by
  refine C8.met0 T.cI me F b sc_Instance_has_alternative (fun vs H Q E h => ?_) (fun cdv A outer s H vs Q E hr h => ⟨_, (pss_one (ps_ret (pe_cmpR op_lt (pv 1) (pe_fld (pv 0) rfl) (nomark _)))), ?_⟩)
  · obtain ⟨a, D, O, m, i, rfl, _⟩ := h
    rfl
  · obtain ⟨a, D, O, m, i, rfl, hI, q⟩ := h
    exact s_ret (ev_lt (ev_var rfl) (ev_k T hI (ev_var rfl))) fun H1 e => q H1 e
/-! #### data, for `in` over lists -/
def dNN (rs : List (List Nat)) : PyData := .list (rs.map dN)
theorem dp_N {q : Addr} {l : List Nat} (h : H q = some (.lst (nvs l))) : Dp K H (.ref q) (dN l) := .lst (sq_of h) (dp_nvs l)
theorem dp_all {α : Type} {f : α → PyData} {R : Addr → α → Prop} (k : ∀ q x, R q x → Dp K H (.ref q) (f x)) : ∀ {qs : List Addr} {xs : List α}, Paired R qs xs → DpAll K H (rfs qs) (xs.map f)
  | _, _, .nil => .nil
  | _, _, .cons h t => .cons (k _ _ h) (dp_all k t)
theorem LLN.pair {p : Addr} {rs : List (List Nat)} (h : LLN H p rs) : ∃ qs : List Addr, H p = some (.lst (rfs qs)) ∧ Paired (fun q r => H q = some (.lst (nvs r))) qs rs := by
  obtain ⟨qs, h1, h2, h3⟩ := h.list
  refine ⟨qs, h1, paired_of h2 fun i q r hq hr => ?_⟩
  obtain ⟨r', h4, h5⟩ := h3 i q hq
  rw [hr] at h4
  rw [Option.some.inj h4]
  exact h5
theorem dp_NN {d : Addr} {rs : List (List Nat)} (h : LLN H d rs) : Dp K H (.ref d) (dNN rs) := by
  obtain ⟨qs, h1, h2⟩ := h.pair
  exact .lst (sq_of h1) (dp_all (fun q x h => dp_N h) h2)
theorem lay_N (l : List Nat) : PyData.canLay0 (dN l) = true := canLay_nats l
theorem dep_N (l : List Nat) : PyData.depth (dN l) = 1 := by
  show PyData.depthAll (l.map fun n : Nat => PyData.int (n : Int)) + 1 = 1
  rw [depth_nats]
theorem lay_all {α : Type} {f : α → PyData} (h : ∀ x, PyData.canLay0 (f x) = true) : ∀ l : List α, PyData.canLayAll0 (l.map f) = true
  | [] => rfl
  | x :: l => by
    show (PyData.canLay0 (f x) && PyData.canLayAll0 (l.map f)) = true
    rw [h x, lay_all h l]
    rfl
theorem dep_all {α : Type} {f : α → PyData} {n : Nat} (h : ∀ x, PyData.depth (f x) ≤ n) : ∀ l : List α, PyData.depthAll (l.map f) ≤ n
  | [] => Nat.zero_le _
  | x :: l => by
    show max (PyData.depth (f x)) (PyData.depthAll (l.map f)) ≤ n
    have h1 := h x
    have h2 := dep_all h l
    omega
theorem lay_NN (l : List (List Nat)) : PyData.canLay0 (dNN l) = true := lay_all lay_N l
theorem dep_NN (l : List (List Nat)) : PyData.depth (dNN l) ≤ 2 := by
  show PyData.depthAll (l.map dN) + 1 ≤ 2
  have := dep_all (f := dN) (n := 1) (fun x => Nat.le_of_eq (dep_N x)) l
  omega
theorem shaped_N (l : List Nat) : SeqAt.shaped (dN l) = true := shaped_nats l
theorem shaped_NN (l : List (List Nat)) : SeqAt.shaped (.list (l.map dN)) = true := by
  unfold SeqAt.shaped
  rw [Bool.and_eq_true]
  exact ⟨lay_NN l, decide_eq_true (Nat.le_trans (dep_NN l) (by decide))⟩
theorem shaped_NNN (l : List (List (List Nat))) : SeqAt.shaped (.list (l.map dNN)) = true := by
  unfold SeqAt.shaped
  rw [Bool.and_eq_true]
  refine ⟨lay_all lay_NN l, decide_eq_true ?_⟩
  show PyData.depthAll (l.map dNN) + 1 ≤ 64
  have := dep_all (f := dNN) (n := 2) dep_NN l
  omega
theorem eqv_N (a c : List Nat) : PyData.eqv (dN a) (dN c) = decide (a = c) := eqv_nats a c
theorem eqv_nil (l : List (List Nat)) : PyData.eqv (dNN l) (.list []) = l.isEmpty := by
  cases l with
  | nil => rfl
  | cons x l => rfl
theorem any_map_fn {α : Type} {f : α → PyData} {g : PyData → Bool} {p : α → Bool} (h : ∀ x, g (f x) = p x) (l : List α) : (l.map f).any g = l.any p := by
  rw [List.any_map]
  exact congrArg (fun z => l.any z) (funext h)
abbrev s_Instance_is_ready : Stmt := inClass (topS 7) 1
theorem sc_Instance_is_ready : FnScope ["self"] ["self"] (C8.fnScope (inClass (topS 7) 1)) := C8.fnScope_by (by decide +kernel)
def sp_Instance_is_ready (CI : Addr) : Sp := fun vs H Q _ => ∃ (a D O : Addr) (m : SocialChoice), vs = [.ref a] ∧ InstAt CI H a D O m ∧ RetV (.bl m.isReady) H Q
theorem met_is_ready (T : Txt K mg) {f : Addr} {fd : FuncData} (F : C8.Fun K "is_ready" "Instance.is_ready" s_Instance_is_ready f fd) (b : Binds K fd ["self"] []) (me : Meth K T.aI "is_ready" f) : C8.Met P w K mg base 1 T.aI "is_ready" (sp_Instance_is_ready T.aI) [] := by
  refine C8.met0 T.cI me F b sc_Instance_is_ready (fun vs H Q E h => ?_) (fun cdv A outer s H vs Q E hr h => ⟨_, (pss_one (ps_ret (pe_cmpR (op_notInD (hu65 hr)) (pe_lst pa_nil) (pe_fld (pv 0) rfl) (by rfl)))), ?_⟩)
  · obtain ⟨a, D, O, m, rfl, _⟩ := h
    rfl
  · obtain ⟨a, D, O, m, rfl, hI, q⟩ := h
    refine s_ret (v := .bl m.isReady) (ev_opL1 (xs := []) (y := .ref D) (el_lst ea_nil (by show 0 ≤ 100000; decide)) (fun H1 e => ev_D T (hI.mono e) (ev_var rfl)) fun p H1 hp e => ?_) fun H1 e => q H1 e
    obtain ⟨ds, h1, h2⟩ := (hI.mono e).doms
    intro H2 e2 Q2 q2
    refine ⟨.list [], m.domains.map dNN, .lst (sq_of (e2 p _ hp)) .nil, .lst (sq_of (e2 D _ h1)) (dp_all (fun q x hq => dp_NN (LLN.mono ((but_ex H1 _).trans e2) hq)) h2), rfl, shaped_NNN _, ?_⟩
    rw [any_map_fn (p := fun l : List (List Nat) => l.isEmpty) eqv_nil, isReady_any]
    exact q2 H2 (Ex.refl H2)
abbrev s_Instance_has_profile : Stmt := inClass (topS 7) 4
theorem sc_Instance_has_profile : FnScope ["self", "row", "report", "domain"] ["self", "row"] (C8.fnScope (inClass (topS 7) 4)) := C8.fnScope_by (by decide +kernel)
def sp_Instance_has_profile (CI : Addr) : Sp := fun vs H Q _ => ∃ (a D O r : Addr) (m : SocialChoice) (t : List Nat), vs = [.ref a, .ref r] ∧ InstAt CI H a D O m ∧ WF m ∧ H r = some (.lst (nvs t)) ∧ RetV (.bl (m.isProfile t)) H Q
theorem met_has_profile (T : Txt K mg) {f : Addr} {fd : FuncData} (F : C8.Fun K "has_profile" "Instance.has_profile" s_Instance_has_profile f fd) (b : Binds K fd ["self", "row"] []) (me : Meth K T.aI "has_profile" f) : C8.Met P w K mg base 1 T.aI "has_profile" (sp_Instance_has_profile T.aI) [] := by
  refine C8.met0 T.cI me F b sc_Instance_has_profile (fun vs H Q E h => ?_) (fun cdv A outer s H vs Q E hr h => ⟨_, (pss_cons (ps_if (pt_cmpR op_ne (pe_callB call_len_seq (by rfl) T.len PySem.boot_len (pa_cons (pv 1) pa_nil)) (pe_fld (pv 0) rfl) (nomark _))
  (pss_one (ps_ret pe_bl))
  pss_nil)
  (pss_one (ps_ret (pe_callB (cr_all rfl) (by rfl) T.all (by decide +kernel) (pa_cons (pe_lc (own := [("report", 2), ("domain", 3)]) (tt := tYes) rfl sc_Instance_has_profile.nd (pi_zip (by rfl) T.zip (pa_cons (pv 1) (pa_cons (pe_fld (pv 0) rfl) pa_nil))) (blkOk_by (own := [("report", 2), ("domain", 3)]) (N := ["self", "row", "report", "domain"]) (sc := C8.fnScope (inClass (topS 7) 4)) (by decide +kernel)) (fun _ _ _ _ _ => (pg_tupK (K := K) (n := 2) rfl rfl (pgs_cons (pg_name (i := 2) sc_Instance_has_profile.nd rfl (Or.inl rfl)) (pgs_cons (pg_name (i := 3) sc_Instance_has_profile.nd rfl (Or.inl rfl)) pgs_nil)))) (fun _ _ _ _ _ => pts_nil) (fun _ _ _ _ _ => (pe_cmpR op_lt (pv 2) (pe_callB (call_lenK (K := K) rfl) (by rfl) T.len PySem.boot_len (pa_cons (pv 3) pa_nil)) (nomark _)))) pa_nil))))), ?_⟩)
  · obtain ⟨a, D, O, r, m, t, rfl, _⟩ := h
    rfl
  · obtain ⟨a, D, O, r, m, t, rfl, hI, W, hr, q⟩ := h
    refine q_when (b := !decide (t.length = m.agentCount)) (et_test (ev_ne (ev_is (ev_len (ev_var rfl) (sq_of hr)) (by show V.int _ = V.int _; rw [List.length_map])) (ev_n T hI (ev_var rfl)))) (fun hb H1 e1 => ?_) (fun hb H1 e1 => ?_)
    · have hne : t.length ≠ m.agentCount := by simpa using hb
      have hno : m.isProfile t = false := by
        unfold SocialChoice.isProfile
        rw [show (t.length == m.agentCount) = false from beq_eq_false_iff_ne.mpr hne]
        rfl
      rw [hno] at q
      exact s_ret ev_c fun H2 e2 => q H2 (e1.trans e2)
    · have heq : t.length = m.agentCount := by simpa using hb
      obtain ⟨ds, h1, h2, h3⟩ := (hI.mono e1).list
      refine s_ret (v := .bl (m.isProfile t)) (ev_is (ev_all (bs := (t.zip m.domains).map fun d => decide (d.1 < d.2.length)) ?_) (by rw [is_profile W heq])) fun H2 e2 => q H2 (e1.trans e2)
      have hde : t.length = m.domains.length := heq.trans W.dl.symm
      rw [List.map_map]
      refine el_lcZD (xs := nvs t) (ys := rfs ds) (ds := t) (es := m.domains) (fun d => V.bl (decide (d.1 < d.2.length))) (ea_cons (ev_var rfl) (ea_cons (ev_D T (hI.mono e1) (ev_var rfl)) ea_nil)) (sq_of (e1 r _ hr)) (sq_of h1) (by rw [List.length_map]) (by rw [List.length_map]; exact h2) hde (by have := W.n3; omega) (fun x y => rfl) fun i x y d e' H2 e2 hx hy hd he' => ?_
      obtain ⟨n, hn, rfl⟩ := nvs_get hx
      obtain ⟨dd, hdd, rfl⟩ := rfs_get hy
      obtain ⟨rs, hrs, hll⟩ := h3 i dd hdd
      rw [hn] at hd
      rw [hrs] at he'
      cases hd
      cases he'
      obtain ⟨qs, hq1, hq2, _⟩ := (LLN.mono e2 hll).list
      exact ev_lt (ev_var rfl) (ev_is (ev_len (ev_var rfl) (sq_of hq1)) (by show V.int _ = V.int _; rw [List.length_map, hq2]))
end
end Tc
namespace Tc
open PySem PySem.Spec PyProof.Rows L2 Evl
open Su193 (SocialChoice)
section
variable {P : Program} {w : World} {K : PySem.W.Frag} {mg : Str → Option Value} {base : Heap} {σ : L2.St} {H H' : Hp} {ta tb te tv : TE} {a D O : Addr} {m : SocialChoice} {v : V} {Ds : Ends} {tz : TS}
theorem range_getD {α β : Type} (f : α → β) (d : α) (l : List α) : (List.range l.length).map (fun i => f (l.getD i d)) = l.map f := by
  refine List.ext_getElem (by simp) fun i h1 h2 => ?_
  simp at h1 h2
  simp [List.getD_eq_getElem?_getD, h2]
theorem up_ref {Pr : Addr → Hp → Prop} (h : ∀ c H H', Ex H H' → Pr c H → Pr c H') : Up (fun v H => ∃ c, v = .ref c ∧ Pr c H) := fun v H H' e ⟨c, e1, h1⟩ => ⟨c, e1, h c H H' e h1⟩
/-! ### all_profiles, reported_rankings -/
abbrev s_Instance_all_profiles : Stmt := inClass (topS 7) 6
theorem sc_Instance_all_profiles : FnScope ["self", "domain"] ["self"] (C8.fnScope (inClass (topS 7) 6)) := C8.fnScope_by (by decide +kernel)
def sp_Instance_all_profiles (CI : Addr) : Sp := fun vs H Q _ => ∃ (a D O : Addr) (m : SocialChoice), vs = [.ref a] ∧ InstAt CI H a D O m ∧ Sm m.domains ∧ RetP (fun v H2 => ∃ c, v = .ref c ∧ LLN H2 c m.profiles) H Q
theorem met_all_profiles (T : Txt K mg) (c_every_choice : C8.Cal P w K mg base 1 "every_choice" sp_every_choice []) {f : Addr} {fd : FuncData} (F : C8.Fun K "all_profiles" "Instance.all_profiles" s_Instance_all_profiles f fd) (b : Binds K fd ["self"] []) (me : Meth K T.aI "all_profiles" f) : C8.Met P w K mg base 2 T.aI "all_profiles" (sp_Instance_all_profiles T.aI) [] := by
  refine C8.met0 T.cI me F b sc_Instance_all_profiles (fun vs H Q E h => ?_) (fun cdv A outer s H vs Q E hr h => ⟨_, (pss_one (ps_ret (C8.pe_c c_every_choice hr (by decide) rfl (pa_cons (pe_lc (own := [("domain", 1)]) (g := gName 1) (tt := tYes) rfl sc_Instance_all_profiles.nd (pi_list (pe_fld (pv 0) rfl)) (blkOk_by (own := [("domain", 1)]) (N := ["self", "domain"]) (sc := C8.fnScope (inClass (topS 7) 6)) (by decide +kernel)) (fun _ _ _ _ _ => (pg_name (i := 1) sc_Instance_all_profiles.nd rfl (Or.inl rfl))) (fun _ _ _ _ _ => pts_nil) (fun _ _ _ _ _ => (pe_listRg rfl (by rfl) T.list (prg_1 (by rfl) T.range (pe_callB (call_lenK (K := K) rfl) (by rfl) T.len PySem.boot_len (pa_cons (pv 1) pa_nil)))))) pa_nil)))), ?_⟩)
  · obtain ⟨a, D, O, m, rfl, _⟩ := h
    rfl
  · obtain ⟨a, D, O, m, rfl, hI, hS, q⟩ := h
    obtain ⟨ds, h1, h2, h3⟩ := hI.list
    have hS1 := hS.1
    refine s_retP (P := fun v H2 => ∃ c, v = .ref c ∧ LLN H2 c m.profiles) (ep_callP (eap_cons (vs := []) (P := fun v H2 => ∃ c, v = .ref c ∧ LLV H2 c (m.domains.map fun d : List (List Nat) => nvs (List.range d.length))) (up_ref (Pr := fun c H => LLV H c (m.domains.map fun d : List (List Nat) => nvs (List.range d.length))) fun c H H' e h => LLV.mono e h) ?_ ea_nil) ?_) fun v H1 e1 hv => q v H1 e1 hv
    · have r := ep_lcL (K := K) (te := tLstRg (tRg1 (tCB (rLenS K) (tCons (tVar 1) tNil)))) (j := 1) (vs := [1]) (σ := [some (.ref a), none]) (tl := tFld K (tVar 0) "domains") (fun i => nvs (List.range (m.domains.getD i []).length)) (ev_D T hI (ev_var rfl)) (sq_of h1) (by rw [List.length_map]; omega) (fun x => rfl) (fun i x H1 e1 hx => by
        obtain ⟨d, hd, rfl⟩ := rfs_get hx
        obtain ⟨rs, hrs, hl⟩ := h3 i d hd
        obtain ⟨qs, hq1, hq2, _⟩ := (LLN.mono e1 hl).list
        have h6 := hS.2 rs (List.mem_of_getElem? hrs)
        have hg : m.domains.getD i [] = rs := by rw [List.getD_eq_getElem?_getD, hrs]; rfl
        rw [hg]
        exact el_listRg (ev_is (ev_len (ev_var rfl) (sq_of hq1)) (by show V.int _ = V.int _; rw [List.length_map, hq2])) (by omega))
      rw [List.length_map, h2, range_getD (fun d : List (List Nat) => nvs (List.range d.length))] at r
      exact r
    · rintro vs H1 e1 ⟨v, rfl, c, rfl, hc⟩ H2 e2 Q2 q2 E2
      refine ⟨c, _, rfl, LLV.mono e2 hc, ⟨by rw [List.length_map]; exact hS.1, fun ms hm => ?_⟩, fun v H3 e3 hv => q2 v H3 e3 ?_⟩
      · obtain ⟨d, hd, rfl⟩ := List.mem_map.mp hm
        rw [List.length_map, List.length_range]
        exact hS.2 d hd
      · obtain ⟨c2, rfl, hc2⟩ := hv
        refine ⟨c2, rfl, ?_⟩
        have e4 : (m.domains.map fun d : List (List Nat) => nvs (List.range d.length)) = (m.domains.map fun d => List.range d.length).map nvs := by
          rw [List.map_map]
          rfl
        rw [e4, choose_map, choose_profiles] at hc2
        exact hc2
def reps (m : SocialChoice) : List (List (List Nat)) := m.profiles.map fun t => m.agents.map fun i => m.reported i t
def RepAt (H : Hp) (p : Addr) (rss : List (List (List Nat))) : Prop := ∃ qs : List Addr, H p = some (.lst (rfs qs)) ∧ Paired (LLN H) qs rss
theorem RepAt.mono {p : Addr} {rss : List (List (List Nat))} (e : Ex H H') (h : RepAt H p rss) : RepAt H' p rss := by
  obtain ⟨qs, h1, h2⟩ := h
  exact ⟨qs, e p _ h1, pmono (fun a b h => LLN.mono e h) h2⟩
theorem choose_pair {α β : Type} {R : α → β → Prop} {xss : List (List α)} {yss : List (List β)} (h : Paired (Paired R) xss yss) : Paired (Paired R) (choose xss) (choose yss) := by
  have flat : ∀ {as : List (List α)} {bs : List (List β)} {ms : List α} {ns : List β}, Paired (Paired R) as bs → Paired R ms ns → Paired (Paired R) (as.flatMap fun b => ms.map fun x => b ++ [x]) (bs.flatMap fun b => ns.map fun x => b ++ [x]) := by
    intro as bs ms ns h1 h2
    induction h1 with
    | nil => exact .nil
    | @cons p q ps qs hpq t ih =>
      rw [List.flatMap_cons, List.flatMap_cons]
      refine papp ?_ ih
      clear ih t
      induction h2 with
      | nil => exact .nil
      | cons r t2 ih2 => exact .cons (papp hpq (.cons r .nil)) ih2
  have main : ∀ {xss : List (List α)} {yss : List (List β)}, Paired (Paired R) xss yss → ∀ {as : List (List α)} {bs : List (List β)}, Paired (Paired R) as bs →
      Paired (Paired R) (xss.foldl (fun ch ms => ch.flatMap fun b => ms.map fun x => b ++ [x]) as) (yss.foldl (fun ch ms => ch.flatMap fun b => ms.map fun x => b ++ [x]) bs) := by
    intro xss yss h
    induction h with
    | nil => intro as bs k; exact k
    | cons r t ih => intro as bs k; exact ih (flat k r)
  exact main h (.cons .nil .nil)
theorem doms_split {ds : List Addr} {doms : List (List (List Nat))} (h : Paired (LLN H) ds doms) : ∃ qss : List (List Addr), Paired (fun d qs => H d = some (.lst (rfs qs))) ds qss ∧ Paired (Paired fun q r => H q = some (.lst (nvs r))) qss doms := by
  induction h with
  | nil => exact ⟨[], .nil, .nil⟩
  | cons r t ih =>
    obtain ⟨qss, h1, h2⟩ := ih
    obtain ⟨qs, h3, h4⟩ := r.pair
    exact ⟨qs :: qss, .cons h3 h1, .cons h4 h2⟩
theorem pmap_r {α β γ : Type} {R : α → γ → Prop} {f : β → γ} : ∀ {as : List α} {bs : List β}, Paired (fun a b => R a (f b)) as bs → Paired R as (bs.map f)
  | _, _, .nil => .nil
  | _, _, .cons h t => .cons h (pmap_r t)
theorem pmap_l {α β γ : Type} {R : α → γ → Prop} {f : β → γ} : ∀ {as : List α} {bs : List β}, Paired R as (bs.map f) → Paired (fun a b => R a (f b)) as bs
  | [], [], _ => .nil
  | _ :: _, _ :: _, .cons h t => .cons h (pmap_l t)
theorem ptrans {α β γ : Type} {R : α → β → Prop} {S : β → γ → Prop} {U : α → γ → Prop} (k : ∀ a b c, R a b → S b c → U a c) : ∀ {as : List α} {bs : List β} {cs : List γ}, Paired R as bs → Paired S bs cs → Paired U as cs
  | _, _, _, .nil, .nil => .nil
  | _, _, _, .cons h t, .cons h' t' => .cons (k _ _ _ h h') (ptrans k t t')
theorem LLN.of_pair {p : Addr} {rs : List (List Nat)} {qs : List Addr} (h1 : H p = some (.lst (rfs qs))) (h2 : Paired (fun q r => H q = some (.lst (nvs r))) qs rs) : LLN H p rs := ⟨qs, h1, pmap_r h2⟩
abbrev s_Instance_reported_rankings : Stmt := inClass (topS 7) 7
theorem sc_Instance_reported_rankings : FnScope ["self"] ["self"] (C8.fnScope (inClass (topS 7) 7)) := C8.fnScope_by (by decide +kernel)
def sp_Instance_reported_rankings (CI : Addr) : Sp := fun vs H Q _ => ∃ (a D O : Addr) (m : SocialChoice), vs = [.ref a] ∧ InstAt CI H a D O m ∧ WF m ∧ RetP (fun v H2 => ∃ c, v = .ref c ∧ RepAt H2 c (reps m)) H Q
theorem met_reported_rankings (T : Txt K mg) (c_every_choice : C8.Cal P w K mg base 1 "every_choice" sp_every_choice []) {f : Addr} {fd : FuncData} (F : C8.Fun K "reported_rankings" "Instance.reported_rankings" s_Instance_reported_rankings f fd) (b : Binds K fd ["self"] []) (me : Meth K T.aI "reported_rankings" f) : C8.Met P w K mg base 2 T.aI "reported_rankings" (sp_Instance_reported_rankings T.aI) [] := by
  refine C8.met0 T.cI me F b sc_Instance_reported_rankings (fun vs H Q E h => ?_) (fun cdv A outer s H vs Q E hr h => ⟨_, (pss_one (ps_ret (C8.pe_c c_every_choice hr (by decide) rfl (pa_cons (pe_fld (pv 0) rfl) pa_nil)))), ?_⟩)
  · obtain ⟨a, D, O, m, rfl, _⟩ := h
    rfl
  · obtain ⟨a, D, O, m, rfl, hI, W, q⟩ := h
    obtain ⟨ds, h1, h2⟩ := hI.doms
    obtain ⟨qss, h3, h4⟩ := doms_split (pmono (fun a b h => LLN.mono (but_ex H _) h) h2)
    have hS := sm_doms W
    have hlen : qss.length = m.domains.length := plen h4
    refine s_retP (P := fun v H2 => ∃ c, v = .ref c ∧ RepAt H2 c (reps m)) (ep_call (ea_cons (ev_D T hI (ev_var rfl)) ea_nil) fun H2 e2 Q2 q2 E2 => ⟨D, qss.map rfs, rfl, ⟨ds, e2 D _ h1, pmap_r (pmono (fun a b h => e2 a _ h) h3)⟩, ⟨by rw [List.length_map, hlen]; exact hS.1, fun ms hm => ?_⟩, fun v H3 e3 hv => q2 v H3 e3 ?_⟩) fun v H1 e1 hv => q v H1 e1 hv
    · obtain ⟨qs, hq, rfl⟩ := List.mem_map.mp hm
      obtain ⟨i, hi⟩ := List.getElem?_of_mem hq
      obtain ⟨rs, hrs, hp⟩ := pget' h4 hi
      rw [List.length_map, plen hp]
      exact hS.2 rs (List.mem_of_getElem? hrs)
    · obtain ⟨c, rfl, hc⟩ := hv
      rw [choose_map] at hc
      obtain ⟨cs, hc1, hc2⟩ := hc
      refine ⟨c, rfl, cs, hc1, ?_⟩
      have hrep : reps m = choose m.domains := (choose_reps m W.dl).symm
      rw [hrep]
      exact ptrans (S := Paired fun q r => H q = some (HO.lst (nvs r))) (fun p qs rs hp hq => LLN.of_pair hp (pmono (fun a b h => (e2.trans e3) a _ h) hq)) (pmap_l hc2) (choose_pair h4)

/-! ### place_of, step_of, options -/
abbrev s_Instance_place_of : Stmt := inClass (topS 7) 8
theorem sc_Instance_place_of : FnScope ["self", "profile", "place", "report", "domain"] ["self", "profile"] (C8.fnScope (inClass (topS 7) 8)) := C8.fnScope_by (by decide +kernel)
def sp_Instance_place_of (CI : Addr) : Sp := fun vs H Q _ => ∃ (a D O r : Addr) (m : SocialChoice) (t : List Nat), vs = [.ref a, .ref r] ∧ InstAt CI H a D O m ∧ WF m ∧ H r = some (.lst (nvs t)) ∧ m.isProfile t = true ∧ RetV (nv (m.profileIndex t)) H Q
theorem met_place_of (T : Txt K mg) {f : Addr} {fd : FuncData} (F : C8.Fun K "place_of" "Instance.place_of" s_Instance_place_of f fd) (b : Binds K fd ["self", "profile"] []) (me : Meth K T.aI "place_of" f) : C8.Met P w K mg base 1 T.aI "place_of" (sp_Instance_place_of T.aI) [] := by
  refine C8.met0 T.cI me F b sc_Instance_place_of (fun vs H Q E h => ?_) (fun cdv A outer s H vs Q E hr h => ⟨_, (pss_cons (ps_set (i := 2) sc_Instance_place_of.nd rfl (Or.inl rfl) pe_int)
  (pss_cons (ps_for PassesOwn.never rfl (pi_zip (by rfl) T.zip (pa_cons (pv 1) (pa_cons (pe_fld (pv 0) rfl) pa_nil))) (pg_tup rfl (pgs_cons (pg_name (i := 3) sc_Instance_place_of.nd rfl (Or.inl rfl)) (pgs_cons (pg_name (i := 4) sc_Instance_place_of.nd rfl (Or.inl rfl)) pgs_nil)))
  (pss_one (ps_set (i := 2) sc_Instance_place_of.nd rfl (Or.inl rfl) (pe_op op_add (pe_op op_mul (pv 2) (pe_callB call_len_seq (by rfl) T.len PySem.boot_len (pa_cons (pv 4) pa_nil))) (pv 3)))))
  (pss_one (ps_ret (pv 2))))), ?_⟩)
  · obtain ⟨a, D, O, r, m, t, rfl, _⟩ := h
    rfl
  · obtain ⟨a, D, O, r, m, t, rfl, hI, W, hr, hp, q⟩ := h
    obtain ⟨ds, h1, h2, h3⟩ := hI.list
    have htl := isProfile_len hp
    have hdl := W.dl
    have hn3 := W.n3
    refine q_asg (v := nv 0) ev_c fun H1 e1 => ?_
    refine q_forZ (xs := nvs t) (ys := rfs ds) (ea_cons (ev_var rfl) (ea_cons (ev_D T (hI.mono e1) (ev_var rfl)) ea_nil)) (sq_of (e1 r _ hr)) (sq_of (e1 D _ h1)) (by rw [List.length_map, List.length_map]; omega) (fun i σ' H' => Ex H H' ∧ ∃ x y : Option V, σ' = [some (.ref a), some (.ref r), some (nv (pidx m t i)), x, y]) (fun H2 e2 => ⟨e1.trans e2, none, none, rfl⟩) (fun i σ' H2 H3 z e3 => ⟨z.1.trans e3, z.2⟩) (fun i σ' H2 _ z => ⟨sq_of (z.1 r _ hr), sq_of (z.1 D _ h1)⟩) ?_ ?_
    · rintro i x y σ' H2 hx hy ⟨e2, x0, y0, rfl⟩
      obtain ⟨n, hn, rfl⟩ := nvs_get hx
      obtain ⟨d, hd, rfl⟩ := rfs_get hy
      obtain ⟨rs, hrs, hl⟩ := h3 i d hd
      obtain ⟨qs, hq1, hq2, _⟩ := (LLN.mono e2 hl).list
      have hil : i < t.length := (List.getElem?_eq_some_iff.mp hn).1
      have hlt := pidx_lt W hp i (by omega)
      have h6 : 6 ^ i ≤ 6 ^ 3 := Nat.pow_le_pow_right (by decide) (by omega)
      refine s_asg (v := nv (pidx m t (i + 1))) (ev_is (ev_add (ev_mul (ev_var rfl) (ev_is (ev_len (ev_var rfl) (sq_of hq1)) (by show V.int _ = nv qs.length; rw [List.length_map])) (by omega)) (ev_var rfl)) ?_) fun H3 e3 => ⟨e2.trans e3, some (nv n), some (.ref d), rfl⟩
      show nv _ = nv _
      unfold pidx
      rw [List.range_succ, List.foldl_append]
      show nv _ = nv (_ * (m.domains.getD i []).length + t.getD i 0)
      rw [List.getD_eq_getElem?_getD, hrs, List.getD_eq_getElem?_getD, hn, hq2]
      rfl
    · rintro σ' H2 ⟨e2, x0, y0, rfl⟩
      rw [List.length_map, htl, pidx_all]
      exact s_ret (ev_var rfl) fun H3 e3 => q H3 (e2.trans e3)
theorem s_augM {i a b : Nat} (hx : σ[i]? = some (some (nv a))) (h : Ev te σ H (nv b)) (ha : a < 2 ^ 63) (k : ∀ H1, Ex H H1 → Ds.nx (σ.set i (some (nv (a * b)))) H1) : tAug i te ipMul Ds σ H :=
  ⟨nv a, hx, h H (Ex.refl H) _ fun H1 e => ⟨_, _, rfl, rfl, ⟨by omega, by omega⟩, by
    have g := k H1 e
    have e4 : nv (a * b) = V.int ((a : Int) * (b : Int)) := by show V.int _ = V.int _; rw [Int.natCast_mul]
    rw [e4] at g
    exact g⟩⟩
abbrev s_Instance_step_of : Stmt := inClass (topS 7) 9
theorem sc_Instance_step_of : FnScope ["self", "agent", "step", "domain"] ["self", "agent"] (C8.fnScope (inClass (topS 7) 9)) := C8.fnScope_by (by decide +kernel)
def sp_Instance_step_of (CI : Addr) : Sp := fun vs H Q _ => ∃ (a D O : Addr) (m : SocialChoice) (i : Nat), vs = [.ref a, nv i] ∧ InstAt CI H a D O m ∧ WF m ∧ RetV (nv (stepN m i m.agentCount)) H Q
theorem met_step_of (T : Txt K mg) {f : Addr} {fd : FuncData} (F : C8.Fun K "step_of" "Instance.step_of" s_Instance_step_of f fd) (b : Binds K fd ["self", "agent"] []) (me : Meth K T.aI "step_of" f) : C8.Met P w K mg base 1 T.aI "step_of" (sp_Instance_step_of T.aI) [] := by
  refine C8.met0 T.cI me F b sc_Instance_step_of (fun vs H Q E h => ?_) (fun cdv A outer s H vs Q E hr h => ⟨_, (pss_cons (ps_set (i := 2) sc_Instance_step_of.nd rfl (Or.inl rfl) pe_int)
  (pss_cons (ps_for PassesOwn.never rfl (pi_list (pe_slice sl_list (pe_fld (pv 0) rfl) (po_some (pe_op op_add (pv 1) pe_int)) po_none)) (pg_name (i := 3) sc_Instance_step_of.nd rfl (Or.inl rfl))
  (pss_one (ps_aug (i := 2) sc_Instance_step_of.nd rfl (Or.inl rfl) (pe_callB call_len_seq (by rfl) T.len PySem.boot_len (pa_cons (pv 3) pa_nil)) ip_mul)))
  (pss_one (ps_ret (pv 2))))), ?_⟩)
  · obtain ⟨a, D, O, m, i, rfl, _⟩ := h
    rfl
  · obtain ⟨a, D, O, m, i, rfl, hI, W, q⟩ := h
    obtain ⟨ds, h1, h2, h3⟩ := hI.list
    have hdl := W.dl
    refine q_asg (v := nv 1) ev_c fun H1 e1 => ?_
    refine q_forNLn (xs := rfs (ds.drop (i + 1))) (by
      have r := el_sl (K := K) (te := tFld K (tVar 0) "domains") (tl := tPart (tOp (rI0 fun i j => .int (i + j)) (tVar 1) (tC (.int 1)))) (σ := [some (.ref a), some (nv i), some (nv 1), none]) (lo := some ((i + 1 : Nat) : Int)) (hi := none) (ev_D T (hI.mono e1) (ev_var rfl)) (eo_some (ev_add (a := i) (b := 1) (ev_var rfl) ev_c)) eo_none (sq_of (e1 D _ h1))
      rw [cut_from, ← List.map_drop] at r
      exact r) (fun pl j σ' H' => Ex H H' ∧ H' pl = some (.lst (rfs (ds.drop (i + 1)))) ∧ ∃ x : Option V, σ' = [some (.ref a), some (nv i), some (nv (stepN m i j)), x]) (fun pl H2 hpl e2 hl => ⟨e1.trans e2, hl, none, rfl⟩) (fun pl j σ' H' _ z => sq_of z.2.1) ?_ ?_
    · rintro pl j y σ' H2 hj ⟨e2, hpl, x0, rfl⟩
      obtain ⟨d, hd, rfl⟩ := rfs_get hj
      rw [List.getElem?_drop] at hd
      obtain ⟨rs, hrs, hl⟩ := h3 _ d hd
      obtain ⟨qs, hq1, hq2, _⟩ := (LLN.mono e2 hl).list
      have hle := stepN_le W i j
      refine s_augM (b := rs.length) rfl (ev_is (ev_len (ev_var rfl) (sq_of hq1)) (by show V.int _ = V.int _; rw [List.length_map, hq2])) (by omega) fun H3 e3 => ⟨e2.trans e3, e3 pl _ hpl, some (.ref d), ?_⟩
      have e5 : stepN m i (j + 1) = stepN m i j * rs.length := by
        unfold stepN
        have hat : (m.domains.drop (i + 1))[j]? = some rs := by rw [List.getElem?_drop]; exact hrs
        rw [take_more hat, List.foldl_append]
        rfl
      rw [e5]
      rfl
    · rintro pl σ' H2 ⟨e2, hpl, x0, rfl⟩
      have e5 : stepN m i (rfs (ds.drop (i + 1))).length = stepN m i m.agentCount := by
        unfold stepN
        rw [List.take_of_length_le (by rw [List.length_map, List.length_drop, List.length_drop]; omega), List.take_of_length_le (by rw [List.length_drop]; omega)]
      rw [e5]
      exact s_ret (ev_var rfl) fun H3 e3 => q H3 (e2.trans e3)
theorem pickV_map {α β : Type} (f : α → β) (l : List α) (lo hi : Option Int) (c : Int) : pickV (l.map f) lo hi c = (pickV l lo hi c).map f := by
  unfold pickV
  rw [List.length_map, List.map_filterMap]
  congr 1
  funext i
  rw [List.getElem?_map]
theorem el_slS {tl th ts : TO} {p : Addr} {xs : List V} {lo hi : Option Int} {c : Int} (h : Ev te σ H (.ref p)) (h1 : EvO tl σ H lo) (h2 : EvO th σ H hi) (h3 : EvO ts σ H (some c)) (hc : 0 < c) (hs : SqL K H p xs) : EvL (tSlS K te tl th ts) σ H (pickV xs lo hi c) := fun H1 e _ q =>
  h H1 e _ fun H2 e2 => h1 H2 (e.trans e2) _ fun H3 e3 => h2 H3 ((e.trans e2).trans e3) _ fun H4 e4 => h3 H4 (((e.trans e2).trans e3).trans e4) _ fun H5 e5 =>
    ⟨p, xs, c, rfl, rfl, hc, ex_l ((((e.trans e2).trans e3).trans e4).trans e5) hs, fun z hz => q z _ (fresh_back (((e2.trans e3).trans e4).trans e5) hz) ((((e2.trans e3).trans e4).trans e5).trans (Ex.new hz)) upd_same⟩
abbrev s_Instance_options : Stmt := inClass (topS 7) 10
theorem sc_Instance_options : FnScope ["self", "agent", "profile", "step", "start"] ["self", "agent", "profile"] (C8.fnScope (inClass (topS 7) 10)) := C8.fnScope_by (by decide +kernel)
def sp_Instance_options (CI : Addr) : Sp := fun vs H Q _ => ∃ (a D O r : Addr) (m : SocialChoice) (i : Nat) (t : List Nat), vs = [.ref a, nv i, .ref r] ∧ InstAt CI H a D O m ∧ WF m ∧ H r = some (.lst (nvs t)) ∧ m.isProfile t = true ∧ i < m.agentCount ∧ RetL (nvs (m.options i t)) H Q
theorem met_options (T : Txt K mg) (m_place_of : C8.Met P w K mg base 1 T.aI "place_of" (sp_Instance_place_of T.aI) []) (m_step_of : C8.Met P w K mg base 1 T.aI "step_of" (sp_Instance_step_of T.aI) []) {f : Addr} {fd : FuncData} (F : C8.Fun K "options" "Instance.options" s_Instance_options f fd) (b : Binds K fd ["self", "agent", "profile"] []) (me : Meth K T.aI "options" f) : C8.Met P w K mg base 2 T.aI "options" (sp_Instance_options T.aI) [] := by
  refine C8.met0 T.cI me F b sc_Instance_options (fun vs H Q E h => ?_) (fun cdv A outer s H vs Q E hr h => ⟨_, (pss_cons (ps_set (i := 3) sc_Instance_options.nd rfl (Or.inl rfl) (C8.pe_mt m_step_of hr (by decide) (pv 0) (pa_cons (pv 1) pa_nil)))
  (pss_cons (ps_set (i := 4) sc_Instance_options.nd rfl (Or.inl rfl) (pe_op op_sub (C8.pe_mt m_place_of hr (by decide) (pv 0) (pa_cons (pv 2) pa_nil)) (pe_op op_mul (pe_ix ix_list (pv 2) (pv 1) (fun _ _ => rfl)) (pv 3))))
  (pss_one (ps_ret (pe_sliceS (pe_fld (pv 0) rfl) (po_some (pv 4)) (po_some (pe_op op_add (pv 4) (pe_op op_mul (pe_callB call_len_seq (by rfl) T.len PySem.boot_len (pa_cons (pe_ix ix_list (pe_fld (pv 0) rfl) (pv 1) (fun _ _ => rfl)) pa_nil)) (pv 3)))) (po_some (pv 3))))))), ?_⟩)
  · obtain ⟨a, D, O, r, m, i, t, rfl, _⟩ := h
    rfl
  · obtain ⟨a, D, O, r, m, i, t, rfl, hI, W, hr, hp, hi, q⟩ := h
    obtain ⟨ds, h1, h2, h3⟩ := hI.list
    have hdl := W.dl
    have htl := isProfile_len hp
    obtain ⟨hle, hpos, hpick⟩ := options_pick W hp hi
    have hs216 := stepN_le W i m.agentCount
    refine q_asg (v := nv (stepN m i m.agentCount)) (ev_im T hI (ev_var rfl) (ea_cons (ev_var rfl) ea_nil) fun H1 e1 Q1 q1 E1 => ⟨a, D, O, m, i, rfl, hI.mono e1, W, q1⟩) fun H1 e1 => ?_
    have hti : t[i]? = some (t.getD i 0) := getD_at (by omega)
    have ht6 := isProfile_lt hp hi
    have hd6 : (m.domain i).length ≤ 6 := by
      unfold SocialChoice.domain
      rw [List.getD_eq_getElem?_getD, List.getElem?_eq_getElem (by omega)]
      exact W.d6 _ (List.getElem_mem _)
    refine q_asg (v := nv (m.profileIndex t - t.getD i 0 * stepN m i m.agentCount)) (ev_sub (ev_im T (hI.mono e1) (ev_var rfl) (ea_cons (ev_var rfl) ea_nil) fun H2 e2 Q2 q2 E2 => ⟨a, D, O, r, m, t, rfl, (hI.mono e1).mono e2, W, (e1.trans e2) r _ hr, hp, q2⟩) (ev_mul (a := t.getD i 0) (ev_ix (ev_var rfl) (ev_var rfl) (sq_of (e1 r _ hr)) (nvs_at hti)) (ev_var rfl) (by omega)) hle) fun H2 e2 => ?_
    have hI2 := hI.mono (e1.trans e2)
    have hdi : ds[i]? = some ds[i] := List.getElem?_eq_getElem (by omega)
    obtain ⟨rs, hrs, hl⟩ := h3 i _ hdi
    obtain ⟨qs, hq1, hq2, _⟩ := (LLN.mono (e1.trans e2) hl).list
    have hrd : (m.domain i).length = rs.length := by
      unfold SocialChoice.domain
      rw [List.getD_eq_getElem?_getD, hrs]
      rfl
    refine s_retL (xs := nvs (m.options i t)) ?_ fun p H3 hp3 e3 hl3 => q p H3 (fresh_back (e1.trans e2) hp3) ((e1.trans e2).trans e3) hl3
    rw [← hpick, nvs, ← pickV_map]
    exact el_slS (ev_O T hI2 (ev_var rfl)) (eo_some (ev_var rfl)) (eo_some (ev_add (ev_var rfl) (ev_mul (a := (m.domain i).length) (ev_is (ev_len (ev_ix (ev_D T hI2 (ev_var rfl)) (ev_var rfl) (sq_of ((e1.trans e2) D _ h1)) (rfs_at hdi)) (sq_of hq1)) (by show V.int _ = V.int _; rw [List.length_map, hq2, hrd])) (ev_var rfl) (by omega)))) (eo_some (ev_var rfl)) (by omega) (sq_of hI2.outs)
end
end Tc
namespace Tc
open PySem PySem.Spec PyProof.Rows L2 Evl
open Su193 (SocialChoice)
section
variable {P : Program} {w : World} {K : PySem.W.Frag} {mg : Str → Option Value} {base : Heap} {σ : L2.St} {H H' : Hp} {ta tb te tv : TE} {a D O : Addr} {m : SocialChoice} {v : V} {Ds : Ends} {tz : TS}
theorem but_none {L : List Addr} {x : Addr} (h : x ∈ L) : but H L x = none := if_pos h
theorem but_some {L : List Addr} {x : Addr} {o : HO} (h : but H L x = some o) : x ∉ L ∧ H x = some o := by
  unfold but at h
  split at h
  · cases h
  · rename_i hx
    exact ⟨hx, h⟩
theorem but_of {L : List Addr} {x : Addr} {o : HO} (h1 : x ∉ L) (h2 : H x = some o) : but H L x = some o := by rw [but_at h1, h2]
theorem ne_kind {x y : Addr} {o u : HO} (h1 : H x = some o) (h2 : H y = some u) (h : o ≠ u) : x ≠ y := fun e => h (by
  rw [e, h2] at h1
  exact (Option.some.inj h1).symm)
/-! ### stores of fields -/
theorem s_fld {C dx : Addr} {fs : List (Str × V)} {f : Str} (hv : Ev tv σ H v) (ho : Ev ta σ H (.ref a)) (hat : H a = some (.ins C dx fs)) (hc : Cls K C) (hn : NoAttr K C f) (hl : fs.length < 1000) (k : ∀ H1, Ex H H1 → Ds.nx σ (upd H1 a (.ins C dx (putF f v fs)))) : sFld K ta tv f Ds σ H :=
  hv H (Ex.refl H) _ fun H1 e1 => ho H1 e1 _ fun H2 e2 => ⟨a, C, dx, fs, rfl, (e1.trans e2) a _ hat, hc, hn, hl, k H2 (e1.trans e2)⟩
theorem s_fldL {C dx : Addr} {fs : List (Str × V)} {f : Str} {xs : List V} (hv : EvL tv σ H xs) (ho : Ev ta σ H (.ref a)) (hat : H a = some (.ins C dx fs)) (hc : Cls K C) (hn : NoAttr K C f) (hl : fs.length < 1000)
    (k : ∀ p H1, H p = none → Ex H H1 → H1 p = some (.lst xs) → Ds.nx σ (upd H1 a (.ins C dx (putF f (.ref p) fs)))) : sFld K ta tv f Ds σ H :=
  hv H (Ex.refl H) _ fun p H1 hp e1 hx => ho H1 e1 _ fun H2 e2 => ⟨a, C, dx, fs, rfl, (e1.trans e2) a _ hat, hc, hn, hl, k p H2 hp (e1.trans e2) (e2 p _ hx)⟩
theorem s_fldP {C dx : Addr} {fs : List (Str × V)} {f : Str} {Pr : V → Hp → Prop} (up : Up Pr) (hv : EvP tv σ H Pr) (ho : Ev ta σ H (.ref a)) (hat : H a = some (.ins C dx fs)) (hc : Cls K C) (hn : NoAttr K C f) (hl : fs.length < 1000)
    (k : ∀ v H1, Ex H H1 → Pr v H1 → Ds.nx σ (upd H1 a (.ins C dx (putF f v fs)))) : sFld K ta tv f Ds σ H :=
  hv H (Ex.refl H) _ fun v H1 e1 hx => ho H1 e1 _ fun H2 e2 => ⟨a, C, dx, fs, rfl, (e1.trans e2) a _ hat, hc, hn, hl, k v H2 (e1.trans e2) (up v H1 H2 e2 hx)⟩
theorem q_fld {C dx : Addr} {fs : List (Str × V)} {f : Str} (hv : Ev tv σ H v) (ho : Ev ta σ H (.ref a)) (hat : H a = some (.ins C dx fs)) (hc : Cls K C) (hn : NoAttr K C f) (hl : fs.length < 1000) (k : ∀ H1, Ex H H1 → tz Ds σ (upd H1 a (.ins C dx (putF f v fs)))) : tSeq (sFld K ta tv f) tz Ds σ H :=
  s_fld (Ds := { Ds with nx := tz Ds }) hv ho hat hc hn hl k
theorem q_fldL {C dx : Addr} {fs : List (Str × V)} {f : Str} {xs : List V} (hv : EvL tv σ H xs) (ho : Ev ta σ H (.ref a)) (hat : H a = some (.ins C dx fs)) (hc : Cls K C) (hn : NoAttr K C f) (hl : fs.length < 1000)
    (k : ∀ p H1, H p = none → Ex H H1 → H1 p = some (.lst xs) → tz Ds σ (upd H1 a (.ins C dx (putF f (.ref p) fs)))) : tSeq (sFld K ta tv f) tz Ds σ H := s_fldL (Ds := { Ds with nx := tz Ds }) hv ho hat hc hn hl k
theorem q_fldP {C dx : Addr} {fs : List (Str × V)} {f : Str} {Pr : V → Hp → Prop} (up : Up Pr) (hv : EvP tv σ H Pr) (ho : Ev ta σ H (.ref a)) (hat : H a = some (.ins C dx fs)) (hc : Cls K C) (hn : NoAttr K C f) (hl : fs.length < 1000)
    (k : ∀ v H1, Ex H H1 → Pr v H1 → tz Ds σ (upd H1 a (.ins C dx (putF f v fs)))) : tSeq (sFld K ta tv f) tz Ds σ H := s_fldP (Ds := { Ds with nx := tz Ds }) up hv ho hat hc hn hl k
theorem ev_lenP {rs : List (List Nat)} (h : EvP te σ H fun v H2 => ∃ c, v = .ref c ∧ LLN H2 c rs) : Ev (tCB (rLenS K) (tCons te tNil)) σ H (nv rs.length) := fun H1 e Q q => h H1 e _ fun v H2 e2 ⟨c, hv, hc⟩ => by
  obtain ⟨qs, h1, h2, _⟩ := hc.list
  refine ⟨c, rfs qs, by rw [hv], Or.inl (sq_of h1), ?_⟩
  have e4 : V.int ((rfs qs).length : Int) = nv rs.length := by show V.int _ = V.int _; rw [List.length_map, h2]
  rw [e4]
  exact q H2 e2
theorem pset {α β : Type} {R : α → β → Prop} {x : α} {y : β} (r : R x y) : ∀ {as : List α} {bs : List β} (i : Nat), Paired R as bs → Paired R (as.set i x) (bs.set i y)
  | _, _, _, .nil => .nil
  | _, _, 0, .cons _ t => .cons r t
  | _, _, i + 1, .cons h t => .cons h (pset r i t)
/-! ### the instance, apart from what else may change -/
structure InstX (CI : Addr) (X : List Addr) (H : Hp) (a D O : Addr) (m : SocialChoice) : Prop where
  inst : InstAt CI H a D O m
  aX : a ∉ X
  DX : D ∉ X
  OX : O ∉ X
  XH : ∀ x ∈ X, H x ≠ none
  domsX : ∃ ds : List Addr, H D = some (.lst (rfs ds)) ∧ Paired (LLN (but H (a :: D :: O :: X))) ds m.domains
theorem InstX.mono {CI : Addr} {X : List Addr} (e : Ex H H') (I : InstX CI X H a D O m) : InstX CI X H' a D O m := by
  obtain ⟨h1, h2, h3, h4, h5, ds, h6, h7⟩ := I
  refine ⟨h1.mono e, h2, h3, h4, fun x hx hn => ?_, ds, e D _ h6, pmono (fun a b h => LLN.mono (but_mono e) h) h7⟩
  cases hh : H x with
  | none => exact h5 x hx hh
  | some o =>
    rw [e x o hh] at hn
    cases hn
theorem but_sub {L L' : List Addr} (h : ∀ x, x ∈ L' → x ∈ L) : Ex (but H L) (but H L') := fun x o hx => by
  obtain ⟨h1, h2⟩ := but_some hx
  exact but_of (fun z => h1 (h x z)) h2
/-- new outcomes, at p -/
theorem inst_newO {CI dx p : Addr} {X : List Addr} {outs : List Nat} {H1 : Hp} (I : InstX CI X H a D O m) (e : Ex H H1) (ha : H a = some (.ins CI dx (iF m D O))) (hp : H p = none) (hx : H1 p = some (.lst (nvs outs))) :
    InstX CI X (upd H1 a (.ins CI dx (iF m D p))) a D p { m with outcomes := outs } ∧ Ex (but H [a, D, O]) (upd H1 a (.ins CI dx (iF m D p))) := by
  obtain ⟨ds, hD, hds⟩ := I.domsX
  have haD : a ≠ D := ne_kind ha hD (by intro z; cases z)
  have hpa : p ≠ a := fun z => by
    rw [z, ha] at hp
    cases hp
  have hDp : D ≠ p := fun z => by
    rw [← z, hD] at hp
    cases hp
  have hpX : p ∉ X := fun z => I.XH p z hp
  have hDat : (upd H1 a (.ins CI dx (iF m D p))) D = some (.lst (rfs ds)) := by
    rw [upd_ne (Ne.symm haD)]
    exact e D _ hD
  have mv : Ex (but H (a :: D :: O :: X)) (but (upd H1 a (.ins CI dx (iF m D p))) (a :: D :: p :: X)) := fun x o h => by
    obtain ⟨h1, h2⟩ := but_some h
    simp only [List.mem_cons, not_or] at h1
    have hxp : x ≠ p := fun z => by
      rw [z, hp] at h2
      cases h2
    refine but_of (by simp only [List.mem_cons, not_or]; exact ⟨h1.1, h1.2.1, hxp, h1.2.2.2⟩) ?_
    rw [upd_ne h1.1]
    exact e x o h2
  have hds' := pmono (fun x y h => LLN.mono mv h) hds
  refine ⟨⟨⟨⟨dx, upd_same⟩, by rw [upd_ne hpa]; exact hx, hDp, ds, hDat, pmono (fun x y h => LLN.mono (but_sub fun z hz => by
    simp only [List.mem_cons, List.not_mem_nil, or_false] at hz
    simp only [List.mem_cons]
    rcases hz with h | h | h
    · exact .inl h
    · exact .inr (.inl h)
    · exact .inr (.inr (.inl h))) h) hds'⟩, I.aX, I.DX, hpX, fun x hx' hn => ?_, ds, hDat, hds'⟩, Ex.mut ((but_ex H _).trans e) (but_none (by simp))⟩
  by_cases hxa : x = a
  · exact I.aX (hxa ▸ hx')
  · rw [upd_ne hxa] at hn
    exact I.XH x hx' (fresh_back e hn)
/-! ### replace_domain -/
def newDom (m : SocialChoice) (i : Nat) (rs : List (List Nat)) : SocialChoice := ({ m with domains := m.domains.set i rs } : SocialChoice).resetOutcomes
abbrev s_Instance_replace_domain : Stmt := inClass (topS 7) 5
theorem sc_Instance_replace_domain : FnScope ["self", "agent", "domain"] ["self", "agent", "domain"] (C8.fnScope (inClass (topS 7) 5)) := C8.fnScope_by (by decide +kernel)
def sp_Instance_replace_domain (CI : Addr) : Sp := fun vs H Q _ => ∃ (X : List Addr) (a D O d : Addr) (m : SocialChoice) (i : Nat) (rs : List (List Nat)), vs = [.ref a, nv i, .ref d] ∧ InstX CI X H a D O m ∧ WF m ∧ i < m.agentCount ∧ LLN (but H (a :: D :: O :: X)) d rs ∧ rs.length ≤ 6 ∧
  ∀ (H' : Hp) (O' : Addr), H O' = none → Ex (but H [a, D, O]) H' → InstX CI X H' a D O' (newDom m i rs) → Q .non H'
theorem met_replace_domain (T : Txt K mg) (m_all_profiles : C8.Met P w K mg base 2 T.aI "all_profiles" (sp_Instance_all_profiles T.aI) []) {f : Addr} {fd : FuncData} (F : C8.Fun K "replace_domain" "Instance.replace_domain" s_Instance_replace_domain f fd) (b : Binds K fd ["self", "agent", "domain"] []) (me : Meth K T.aI "replace_domain" f) : C8.Met P w K mg base 3 T.aI "replace_domain" (sp_Instance_replace_domain T.aI) [] := by
  refine C8.met0 T.cI me F b sc_Instance_replace_domain (fun vs H Q E h => ?_) (fun cdv A outer s H vs Q E hr h => ⟨_, (pss_cons (ps_asg (pv 2) (pg_sub (pe_fld (pv 0) rfl) (pv 1) set_list))
  (pss_one (ps_fld (pv 0) (pe_op op_rep (pe_lst (pa_cons pe_int pa_nil)) (pe_callB call_len_seq (by rfl) T.len PySem.boot_len (pa_cons (C8.pe_mt0 m_all_profiles hr (by decide) (pv 0)) pa_nil))) rfl))), ?_⟩)
  · obtain ⟨X, a, D, O, d, m, i, rs, rfl, _⟩ := h
    rfl
  · obtain ⟨X, a, D, O, d, m, i, rs, rfl, hX, W, hi, hd, h6, q⟩ := h
    have hI := hX.inst
    obtain ⟨dx, ha⟩ := hI.at_
    obtain ⟨ds, hD, hp⟩ := hX.domsX
    have hdl : ds.length = m.domains.length := plen hp
    have hwl := W.dl
    have haD : a ≠ D := ne_kind ha hD (by intro z; cases z)
    refine q_setL (l := D) (j := i) hD (ev_var rfl) (ev_D T hI (ev_var rfl)) (ev_var rfl) (by rw [List.length_map]; omega) fun H1 e1 => ?_
    have hset : (rfs ds).set i (.ref d) = rfs (ds.set i d) := by rw [rfs, rfs, List.map_set]
    rw [hset]
    have f2 : Ex (but H [a, D, O]) (upd H1 D (.lst (rfs (ds.set i d)))) := Ex.mut ((but_ex H _).trans e1) (but_none (by simp))
    have f3 : Ex (but H (a :: D :: O :: X)) (but (upd H1 D (.lst (rfs (ds.set i d)))) (a :: D :: O :: X)) := fun x o h => by
      obtain ⟨h1, h2⟩ := but_some h
      refine but_of h1 ?_
      simp only [List.mem_cons, not_or] at h1
      rw [upd_ne h1.2.1]
      exact e1 x o h2
    have up2 : ∀ x, (upd H1 D (.lst (rfs (ds.set i d)))) x = none → H x = none := fun x hx => by
      by_cases hxD : x = D
      · rw [hxD, upd_same] at hx
        cases hx
      · rw [upd_ne hxD] at hx
        exact fresh_back e1 hx
    have hdom2 : Paired (LLN (but (upd H1 D (.lst (rfs (ds.set i d)))) (a :: D :: O :: X))) (ds.set i d) (m.domains.set i rs) := pset (LLN.mono f3 hd) i (pmono (fun x y h => LLN.mono f3 h) hp)
    have X2 : InstX T.aI X (upd H1 D (.lst (rfs (ds.set i d)))) a D O { m with domains := m.domains.set i rs } :=
      ⟨⟨⟨dx, by rw [upd_ne haD]; exact e1 a _ ha⟩, by rw [upd_ne (Ne.symm hI.dne)]; exact e1 O _ hI.outs, hI.dne, ds.set i d, upd_same, pmono (fun x y h => LLN.mono (but_sub fun z hz => by
        simp only [List.mem_cons, List.not_mem_nil, or_false] at hz
        simp only [List.mem_cons]
        rcases hz with h | h | h
        · exact .inl h
        · exact .inr (.inl h)
        · exact .inr (.inr (.inl h))) h) hdom2⟩, hX.aX, hX.DX, hX.OX, fun x hx hn => hX.XH x hx (up2 x hn), ds.set i d, upd_same, hdom2⟩
    have hSm : Sm ({ m with domains := m.domains.set i rs } : SocialChoice).domains := by
      refine ⟨by show (m.domains.set i rs).length ≤ 3; rw [List.length_set, hwl]; exact W.n3, fun ms hm => ?_⟩
      rcases List.mem_or_eq_of_mem_set hm with h | h
      · exact W.d6 ms h
      · rw [h]
        exact h6
    have hpl : ({ m with domains := m.domains.set i rs } : SocialChoice).profiles.length ≤ 216 := by
      have h := choose_216 (xss := ({ m with domains := m.domains.set i rs } : SocialChoice).domains.map fun d => List.range d.length) (i := (m.domains.set i rs).length) ⟨by rw [List.length_map]; exact hSm.1, fun ms hm => by
        obtain ⟨z, hz, rfl⟩ := List.mem_map.mp hm
        rw [List.length_range]
        exact hSm.2 z hz⟩ (by rw [List.length_map]; exact Nat.le_refl _)
      rw [List.take_of_length_le (by rw [List.length_map]; exact Nat.le_refl _), choose_profiles] at h
      exact h
    revert f2 up2 X2
    generalize upd H1 D (.lst (rfs (ds.set i d))) = H2
    intro f2 up2 X2
    have I2 := X2.inst
    obtain ⟨dx2, ha2⟩ := I2.at_
    refine s_fldL (xs := List.replicate ({ m with domains := m.domains.set i rs } : SocialChoice).profiles.length (nv 0)) (el_rep (el_lst (ea_cons ev_c ea_nil) (by show 1 ≤ 100000; decide)) (ev_lenP (ep_im T I2 (ev_var rfl) ea_nil fun H3 e3 Q3 q3 E3 => ⟨a, D, O, _, rfl, I2.mono e3, hSm, fun v H4 e4 hv => q3 v H4 e4 hv⟩)) (by omega)) (ev_var rfl) ha2 T.cI T.nI_outcomes (by show 4 < 1000; decide) fun p H3 hp3 e3 hx3 => ?_
    rw [nvs_rep] at hx3
    obtain ⟨r1, r2⟩ := inst_newO X2 e3 ha2 hp3 hx3
    exact q _ p (up2 p hp3) (fun x o h => r2 x o (but_of (but_some h).1 (f2 x o h))) r1
/-- a new list of new lists -/
def EvLL (te : TE) (σ : L2.St) (H : Hp) (xss : List (List V)) : Prop := ∀ H1, Ex H H1 → ∀ Q : VK, (∀ p H2, H1 p = none → Ex H1 H2 → LLVF H1 H2 p xss → Q (.ref p) H2) → te σ H1 Q
theorem ell_lcR {ta : TA} {j : Nat} {vs : List Nat} {n : Nat} (g : Nat → List V) (h : EvA ta σ H [nv n]) (hz : n ≤ 40000) (hw : ∀ x, wipe ((wipe σ vs).set j (some x)) vs = wipe σ vs)
    (he : ∀ (i : Nat) H1, Ex H H1 → i < n → EvL te ((wipe σ vs).set j (some (nv i))) H1 (g i)) : EvLL (tLc (iRng1 ta) (gName j) tYes te vs) σ H ((List.range n).map g) := fun H0 e Q q => h H0 e _ fun H1 e1 => ⟨(n : Int), rfl, by omega, by omega, fun Dl hD =>
  lc_range (lo := 0) (n := (n : Int).toNat) (LcL H1 g Dl) ⟨hD, Ex.new hD, [], upd_same, rfl, fun j q hj => by cases hj⟩
    (fun i H' hi p => by
      have e0 : V.int ((0 : Int) + (i : Int)) = nv i := by rw [Int.zero_add]
      rw [e0]
      exact ⟨hw (nv i), lcl_turn p (by omega) (he i H1 (e.trans e1) (by omega))⟩) (fun H' p => q Dl H' (fresh_back e1 p.1) (e1.trans p.2.1) (LLVF.back e1 p.doneF))⟩
theorem q_fldLL {C dx : Addr} {fs : List (Str × V)} {f : Str} {xss : List (List V)} (hv : EvLL tv σ H xss) (ho : Ev ta σ H (.ref a)) (hat : H a = some (.ins C dx fs)) (hc : Cls K C) (hn : NoAttr K C f) (hl : fs.length < 1000)
    (k : ∀ p H1, H p = none → Ex H H1 → LLVF H H1 p xss → tz Ds σ (upd H1 a (.ins C dx (putF f (.ref p) fs)))) : tSeq (sFld K ta tv f) tz Ds σ H :=
  hv H (Ex.refl H) _ fun p H1 hp e1 hx => ho H1 e1 _ fun H2 e2 => ⟨a, C, dx, fs, rfl, (e1.trans e2) a _ hat, hc, hn, hl, k p H2 hp (e1.trans e2) (LLVF.mono e2 hx)⟩
/-! ### Instance's own making -/
abbrev s_Instance_new : Stmt := inClass (topS 7) 0
theorem sc_Instance_new : FnScope ["self", "agent_count", "alternative_count", "agent"] ["self", "agent_count", "alternative_count"] (C8.fnScope (inClass (topS 7) 0)) := C8.fnScope_by (by decide +kernel)
def sp_Instance_new (CI : Addr) : Sp := fun vs H Q _ => ∃ (X : List Addr) (p dx : Addr) (n k : Nat), vs = [.ref p, nv n, nv k] ∧ H p = some (.ins CI dx []) ∧ p ∉ X ∧ (∀ x ∈ X, H x ≠ none) ∧ 1 ≤ n ∧ n ≤ 3 ∧
  ∀ (H' : Hp) (D O : Addr), H D = none → H O = none → Ex (but H [p]) H' → InstX CI X H' p D O (Su193.create n k) → Q .non H'
theorem mak_Instance (T : Txt K mg) {f : Addr} {fd : FuncData} (F : C8.Fun K "__init__" "Instance.__init__" s_Instance_new f fd) (b : Binds K fd ["self", "agent_count", "alternative_count"] []) (M : Mk K T.aI f) (hm : mg "Instance" = some (.ref T.aI)) : C8.Mak P w K mg base 1 "Instance" T.aI (sp_Instance_new T.aI) [] := by
  refine C8.mak0 M hm F b .nil sc_Instance_new (fun vs H Q E h => ?_) (fun cdv A outer s H vs Q E hr h => ⟨_, (pss_cons (ps_fld (pv 0) (pv 1) rfl)
  (pss_cons (ps_fld (pv 0) (pv 2) rfl)
  (pss_cons (ps_fld (pv 0) (pe_lc (own := [("agent", 3)]) (g := gName 3) (tt := tYes) rfl sc_Instance_new.nd (pi_range1 (by rfl) T.range (pa_cons (pv 1) pa_nil)) (blkOk_by (own := [("agent", 3)]) (N := ["self", "agent_count", "alternative_count", "agent"]) (sc := C8.fnScope (inClass (topS 7) 0)) (by decide +kernel)) (fun _ _ _ _ _ => (pg_name (i := 3) sc_Instance_new.nd rfl (Or.inl rfl))) (fun _ _ _ _ _ => pts_nil) (fun _ _ _ _ _ => (pe_lst pa_nil))) rfl)
  (pss_one (ps_fld (pv 0) (pe_lst pa_nil) rfl))))), ?_⟩)
  · obtain ⟨X, p, dx, n, k, rfl, _⟩ := h
    rfl
  · obtain ⟨X, p, dx, n, k, rfl, hp, hpX, hX, h1, h3, q⟩ := h
    refine q_fld (v := nv n) (ev_var rfl) (ev_var rfl) hp T.cI T.nI_agent_count (by show 0 < 1000; decide) fun H1 e1 => ?_
    refine q_fld (v := nv k) (ev_var rfl) (ev_var rfl) upd_same T.cI T.nI_alternative_count (by show 1 < 1000; decide) fun H2 e2 => ?_
    have f2 : Ex (but H [p]) (upd H2 p (.ins T.aI dx (putF "alternative_count" (nv k) (putF "agent_count" (nv n) [])))) := Ex.mut ((Ex.mut ((but_ex H _).trans e1) (but_none (by simp))).trans e2) (but_none (by simp))
    have n2 : ∀ x, (upd H2 p (.ins T.aI dx (putF "alternative_count" (nv k) (putF "agent_count" (nv n) [])))) x = none → H x = none := fun x hx => by
      have hxp : x ≠ p := fun z => by
        rw [z, upd_same] at hx
        cases hx
      rw [upd_ne hxp] at hx
      have h4 := fresh_back e2 hx
      rw [upd_ne hxp] at h4
      exact fresh_back e1 h4
    have a2 : (upd H2 p (.ins T.aI dx (putF "alternative_count" (nv k) (putF "agent_count" (nv n) [])))) p = some (.ins T.aI dx (putF "alternative_count" (nv k) (putF "agent_count" (nv n) []))) := upd_same
    revert f2 n2 a2
    generalize upd H2 p (.ins T.aI dx (putF "alternative_count" (nv k) (putF "agent_count" (nv n) []))) = H3
    intro f2 n2 a2
    refine q_fldLL (xss := (List.range n).map fun _ => ([] : List V)) (ell_lcR (n := n) (fun _ => []) (ea_cons (ev_var rfl) ea_nil) (by omega) (fun x => rfl) fun i H1 e1 hi => el_lst ea_nil (by show 0 ≤ 100000; decide)) (ev_var rfl) a2 T.cI T.nI_domains (by show 2 < 1000; decide) fun D H4 hD4 e4 hl4 => ?_
    refine s_fldL (xs := []) (el_lst ea_nil (by show 0 ≤ 100000; decide)) (ev_var rfl) upd_same T.cI T.nI_outcomes (by show 3 < 1000; decide) fun O H5 hO5 e5 hx5 => ?_
    obtain ⟨ds, hd1, hd2, hd3⟩ := hl4
    have hDp : D ≠ p := fun z => by
      rw [z, a2] at hD4
      cases hD4
    have hOp : O ≠ p := fun z => by
      rw [z, upd_same] at hO5
      cases hO5
    have hO4 : H4 O = none := by
      rw [upd_ne hOp] at hO5
      exact hO5
    have hDO : D ≠ O := fun z => by
      rw [← z, hd1] at hO4
      cases hO4
    have hdl : ds.length = n := by rw [plen hd2, List.length_map, List.length_range]
    have hne : rfs ds ≠ [] := fun z => by
      have := congrArg List.length z
      rw [List.length_map, hdl] at this
      simp at this
      omega
    have hDH := n2 D hD4
    have hOH := n2 O (fresh_back e4 hO4)
    have hDX : D ∉ X := fun z => hX D z hDH
    have hOX : O ∉ X := fun z => hX O z hOH
    have hDf : (upd H5 p (.ins T.aI dx (putF "outcomes" (.ref O) (putF "domains" (.ref D) (putF "alternative_count" (nv k) (putF "agent_count" (nv n) [])))))) D = some (.lst (rfs ds)) := by
      rw [upd_ne hDp]
      exact e5 D _ (by rw [upd_ne hDp]; exact hd1)
    have hdoms : Paired (LLN (but (upd H5 p (.ins T.aI dx (putF "outcomes" (.ref O) (putF "domains" (.ref D) (putF "alternative_count" (nv k) (putF "agent_count" (nv n) [])))))) (p :: D :: O :: X))) ds (Su193.create n k).domains := by
      refine paired_of (by rw [hdl]; exact (List.length_replicate ..).symm) fun i q r hq hr => ?_
      have hr0 : r = [] := List.eq_of_mem_replicate (List.mem_of_getElem? hr)
      subst hr0
      obtain ⟨x, hx, hqx⟩ := pget' hd2 hq
      have hx0 : x = [] := by
        obtain ⟨_, _, rfl⟩ := List.mem_map.mp (List.mem_of_getElem? hx)
        rfl
      subst hx0
      have hqp : q ≠ p := fun z => by
        rw [z, e4 p _ a2] at hqx
        cases hqx
      have hqO : q ≠ O := fun z => by
        rw [z, hO4] at hqx
        cases hqx
      have hqD : q ≠ D := fun z => by
        rw [z, hd1] at hqx
        exact hne (HO.lst.inj (Option.some.inj hqx))
      have hqX : q ∉ X := fun z => hX q z (n2 q (hd3 q (List.mem_of_getElem? hq)))
      refine ⟨[], ?_, .nil⟩
      refine but_of (by simp only [List.mem_cons, not_or]; exact ⟨hqp, hqD, hqO, hqX⟩) ?_
      rw [upd_ne hqp]
      exact e5 q _ (by rw [upd_ne hqp]; exact hqx)
    refine q _ D O hDH hOH (Ex.mut ((Ex.mut (f2.trans e4) (but_none (by simp))).trans e5) (but_none (by simp))) ⟨⟨⟨dx, upd_same⟩, ?_, hDO, ds, hDf, pmono (fun x y h => LLN.mono (but_sub fun z hz => ?_) h) hdoms⟩, hpX, hDX, hOX, fun x hx hn => ?_, ds, hDf, hdoms⟩
    · rw [upd_ne hOp]
      exact hx5
    · simp only [List.mem_cons, List.not_mem_nil, or_false] at hz
      simp only [List.mem_cons]
      rcases hz with h | h | h
      · exact .inl h
      · exact .inr (.inl h)
      · exact .inr (.inr (.inl h))
    · have hxp : x ≠ p := fun z => hpX (z ▸ hx)
      rw [upd_ne hxp] at hn
      have h5 := fresh_back e5 hn
      rw [upd_ne hxp] at h5
      exact hX x hx (n2 x (fresh_back e4 h5))

/-! ### Call, Session -/
def cF (p : Nat) (ln lr : Addr) : List (Str × V) := [("number", nv p), ("numbers", .ref ln), ("row", .ref lr)]
abbrev s_Call_new : Stmt := inClass (topS 3) 0
theorem sc_Call_new : FnScope ["self", "number", "numbers", "row"] ["self", "number", "numbers", "row"] (C8.fnScope (inClass (topS 3) 0)) := C8.fnScope_by (by decide +kernel)
def sp_Call_new (CC : Addr) : Sp := fun vs H Q _ => ∃ (p dx : Addr) (n : Nat) (ln lr : Addr), vs = [.ref p, nv n, .ref ln, .ref lr] ∧ H p = some (.ins CC dx []) ∧ ∀ H' : Hp, Ex (but H [p]) H' → H' p = some (.ins CC dx (cF n ln lr)) → Q .non H'
theorem mak_Call (T : Txt K mg) {f : Addr} {fd : FuncData} (F : C8.Fun K "__init__" "Call.__init__" s_Call_new f fd) (b : Binds K fd ["self", "number", "numbers", "row"] []) (M : Mk K T.aC f) (hm : mg "Call" = some (.ref T.aC)) : C8.Mak P w K mg base 1 "Call" T.aC (sp_Call_new T.aC) [] := by
  refine C8.mak0 M hm F b .nil sc_Call_new (fun vs H Q E h => ?_) (fun cdv A outer s H vs Q E hr h => ⟨_, (pss_cons (ps_fld (pv 0) (pv 1) rfl)
  (pss_cons (ps_fld (pv 0) (pv 2) rfl)
  (pss_one (ps_fld (pv 0) (pv 3) rfl)))), ?_⟩)
  · obtain ⟨p, dx, n, ln, lr, rfl, _⟩ := h
    rfl
  · obtain ⟨p, dx, n, ln, lr, rfl, hp, q⟩ := h
    refine q_fld (v := nv n) (ev_var rfl) (ev_var rfl) hp T.cC T.nC_number (by show 0 < 1000; decide) fun H1 e1 => ?_
    refine q_fld (v := .ref ln) (ev_var rfl) (ev_var rfl) upd_same T.cC T.nC_numbers (by show 1 < 1000; decide) fun H2 e2 => ?_
    refine s_fld (v := .ref lr) (ev_var rfl) (ev_var rfl) upd_same T.cC T.nC_row (by show 2 < 1000; decide) fun H3 e3 => ?_
    exact q _ (Ex.mut ((Ex.mut ((Ex.mut ((but_ex H _).trans e1) (but_none (by simp))).trans e2) (but_none (by simp))).trans e3) (but_none (by simp))) upd_same
def seF (v : V) : List (Str × V) := [("instance", v)]
abbrev s_Session_new : Stmt := inClass (topS 65) 0
theorem sc_Session_new : FnScope ["self"] ["self"] (C8.fnScope (inClass (topS 65) 0)) := C8.fnScope_by (by decide +kernel)
def sp_Session_new (CS : Addr) : Sp := fun vs H Q _ => ∃ (p dx : Addr), vs = [.ref p] ∧ H p = some (.ins CS dx []) ∧ ∀ H' : Hp, Ex (but H [p]) H' → H' p = some (.ins CS dx (seF .non)) → Q .non H'
theorem mak_Session (T : Txt K mg) {f : Addr} {fd : FuncData} (F : C8.Fun K "__init__" "Session.__init__" s_Session_new f fd) (b : Binds K fd ["self"] []) (M : Mk K T.aS f) (hm : mg "Session" = some (.ref T.aS)) : C8.Mak P w K mg base 1 "Session" T.aS (sp_Session_new T.aS) [] := by
  refine C8.mak0 M hm F b .nil sc_Session_new (fun vs H Q E h => ?_) (fun cdv A outer s H vs Q E hr h => ⟨_, (pss_one (ps_fld (pv 0) pe_non rfl)), ?_⟩)
  · obtain ⟨p, dx, rfl, _⟩ := h
    rfl
  · obtain ⟨p, dx, rfl, hp, q⟩ := h
    refine s_fld (v := .non) ev_c (ev_var rfl) hp T.cS T.nS_instance (by show 0 < 1000; decide) fun H1 e1 => ?_
    exact q _ (Ex.mut ((but_ex H _).trans e1) (but_none (by simp))) upd_same
end
end Tc
namespace Tc
open PySem PySem.Spec PyProof.Rows L2 Evl
open Su193 (SocialChoice)
section
variable {P : Program} {w : World} {K : PySem.W.Frag} {mg : Str → Option Value} {base : Heap} {σ : L2.St} {H H' : Hp} {ta tb te tv tl : TE} {a D O : Addr} {m : SocialChoice} {v : V} {Ds : Ends} {tu tz : TS} {g : TG}
/-- a for over lists of numbers, the outer list told by a word -/
theorem s_forLLN {j : Nat} {rs : List (List Nat)} (h : EvP tl σ H fun v H2 => ∃ c, v = .ref c ∧ LLN H2 c rs) (Pv : Hp → Nat → L2.St → Hp → Prop) (h0 : ∀ H1, Ex H H1 → Pv H1 0 σ H1) (ex : ∀ H1 i σ' H', Pv H1 i σ' H' → Ex H1 H')
    (hs : ∀ H1, Ex H H1 → ∀ i q r σ' H', rs[i]? = some r → H' q = some (.lst (nvs r)) → Pv H1 i σ' H' → tu { Ds with nx := Pv H1 (i + 1), ct := Pv H1 (i + 1), bk := Ds.nx } (σ'.set j (some (.ref q))) H')
    (hd : ∀ H1, Ex H H1 → ∀ σ' H', Pv H1 rs.length σ' H' → Ds.nx σ' H') : tFor (iList K tl) (gName j) tu Ds σ H := h H (Ex.refl H) _ fun v H1 e1 hv => by
  obtain ⟨c, rfl, hc⟩ := hv
  obtain ⟨qs, h1, h2, h3⟩ := hc.list
  refine ⟨c, rfl, ⟨rfs qs, sq_of h1⟩, for_list (xs := rfs qs) (Pv H1) (h0 H1 e1) (fun i σ' H' _ p => sq_of (ex _ _ _ _ p c _ h1)) (fun i x σ' H' hx p => ?_) (fun σ' H' p => ?_)⟩
  · obtain ⟨q, hq, rfl⟩ := rfs_get hx
    obtain ⟨r, hr, hqr⟩ := h3 i q hq
    exact hs H1 e1 i q r σ' H' hr (ex _ _ _ _ p q _ hqr) p
  · rw [List.length_map, h2] at p
    exact hd H1 e1 σ' H' p
theorem q_forLLN {j : Nat} {rs : List (List Nat)} (h : EvP tl σ H fun v H2 => ∃ c, v = .ref c ∧ LLN H2 c rs) (Pv : Hp → Nat → L2.St → Hp → Prop) (h0 : ∀ H1, Ex H H1 → Pv H1 0 σ H1) (ex : ∀ H1 i σ' H', Pv H1 i σ' H' → Ex H1 H')
    (hs : ∀ H1, Ex H H1 → ∀ i q r σ' H', rs[i]? = some r → H' q = some (.lst (nvs r)) → Pv H1 i σ' H' → tu { Ds with nx := Pv H1 (i + 1), ct := Pv H1 (i + 1), bk := tz Ds } (σ'.set j (some (.ref q))) H')
    (hd : ∀ H1, Ex H H1 → ∀ σ' H', Pv H1 rs.length σ' H' → tz Ds σ' H') : tSeq (tFor (iList K tl) (gName j) tu) tz Ds σ H := s_forLLN (Ds := { Ds with nx := tz Ds }) h Pv h0 ex hs hd
/-- a comprehension over lists of numbers -/
theorem el_lcLLN {j : Nat} {vs : List Nat} {rs : List (List Nat)} (f : List Nat → V) (h : EvP tl σ H fun v H2 => ∃ c, v = .ref c ∧ LLN H2 c rs) (hz : rs.length ≤ 40000) (hw : ∀ x, wipe ((wipe σ vs).set j (some x)) vs = wipe σ vs)
    (he : ∀ (i : Nat) (q : Addr) (r : List Nat) (H1 : Hp), Ex H H1 → rs[i]? = some r → H1 q = some (.lst (nvs r)) → Ev te ((wipe σ vs).set j (some (.ref q))) H1 (f r)) : EvL (tLc (iList K tl) (gName j) tYes te vs) σ H (rs.map f) := by
  refine el_lcP (α := Unit) (xs := fun _ _ _ => True) h fun v H1 e1 hv tl' htl => ?_
  obtain ⟨c, rfl, hc⟩ := hv
  obtain ⟨qs, h1, h2, h3⟩ := hc.list
  refine el_lcDm (xs := rfs qs) (ds := rs) f htl (sq_of h1) (by rw [List.length_map, h2]) hz hw fun i x d H2 e2 hx hd => ?_
  obtain ⟨q, hq, rfl⟩ := rfs_get hx
  obtain ⟨r, hr, hqr⟩ := h3 i q hq
  rw [hr] at hd
  cases hd
  exact he i q _ H2 (e1.trans e2) hr (e2 q _ hqr)
/-- an answer that may be None -/
def RetO (o : Option (List Nat)) (H : Hp) (Q : VK) : Prop := match o with
  | none => RetV .non H Q
  | some l => RetL (nvs l) H Q
/-! ### the ranking that an agent reports -/
theorem dom_at (W : WF m) {i : Nat} (hi : i < m.agentCount) : m.domains[i]? = some (m.domain i) := by
  unfold SocialChoice.domain
  rw [List.getD_eq_getElem?_getD, List.getElem?_eq_getElem (by rw [W.dl]; exact hi)]
  rfl
theorem rep_at {t : List Nat} (hp : m.isProfile t = true) {i : Nat} (hi : i < m.agentCount) : (m.domain i)[t.getD i 0]? = some (m.reported i t) := by
  unfold SocialChoice.reported SocialChoice.preference
  have h := isProfile_lt hp hi
  revert h
  generalize t.getD i 0 = n
  intro h
  rw [List.getD_eq_getElem?_getD, List.getElem?_eq_getElem h]
  rfl
theorem rep_pref (W : WF m) {t : List Nat} (hp : m.isProfile t = true) {i : Nat} (hi : i < m.agentCount) : Su193.isPreference m.alternativeCount (m.reported i t) = true :=
  W.pr _ (List.mem_of_getElem? (dom_at W hi)) _ (List.mem_of_getElem? (rep_at hp hi))
theorem out_lt (W : WF m) (t : List Nat) : m.outcome t < m.alternativeCount := by
  unfold SocialChoice.outcome
  rw [List.getD_eq_getElem?_getD]
  cases h : m.outcomes[m.profileIndex t]? with
  | none =>
    have := W.k2
    show 0 < _
    omega
  | some x => exact W.ob x (List.mem_of_getElem? h)
theorem InstAt.rank {CI : Addr} (I : InstAt CI H a D O m) (W : WF m) {t : List Nat} (hp : m.isProfile t = true) {i : Nat} (hi : i < m.agentCount) :
    ∃ (ds qs : List Addr) (d q : Addr), H D = some (.lst (rfs ds)) ∧ ds[i]? = some d ∧ H d = some (.lst (rfs qs)) ∧ qs[t.getD i 0]? = some q ∧ H q = some (.lst (nvs (m.reported i t))) := by
  obtain ⟨ds, h1, h2⟩ := I.doms
  obtain ⟨d, hd, hl⟩ := pget h2 (dom_at W hi)
  obtain ⟨qs, h3, h4⟩ := (LLN.mono (but_ex H _) hl).pair
  obtain ⟨q, hq, hqr⟩ := pget h4 (rep_at hp hi)
  exact ⟨ds, qs, d, q, h1, hd, h3, hq, hqr⟩
/-! ### gaining_reports -/
def gains (m : SocialChoice) (i : Nat) (t : List Nat) : List Nat := (List.range (m.domain i).length).filter fun k => Su193.prefers (m.reported i t) (m.outcome (Su193.deviate t i k)) (m.outcome t)
theorem dev_self {t : List Nat} {i : Nat} (hi : i < t.length) : Su193.deviate t i (t.getD i 0) = t := by
  unfold Su193.deviate
  rw [List.getD_eq_getElem?_getD, List.getElem?_eq_getElem hi]
  exact List.set_getElem_self hi
theorem opt_at {t : List Nat} {i k : Nat} (hk : k < (m.domain i).length) : (m.options i t)[k]? = some (m.outcome (Su193.deviate t i k)) := by
  unfold SocialChoice.options
  rw [List.getElem?_map, List.getElem?_range hk]
  rfl
abbrev s_gaining_reports : Stmt := topS 15
theorem sc_gaining_reports : FnScope ["instance", "agent", "profile", "own_report", "own_ranking", "options", "other", "option"] ["instance", "agent", "profile"] (C8.fnScope (topS 15)) := C8.fnScope_by (by decide +kernel)
def sp_gaining_reports (CI : Addr) : Sp := fun vs H Q _ => ∃ (a D O r : Addr) (m : SocialChoice) (i : Nat) (t : List Nat), vs = [.ref a, nv i, .ref r] ∧ InstAt CI H a D O m ∧ WF m ∧ H r = some (.lst (nvs t)) ∧ m.isProfile t = true ∧ i < m.agentCount ∧ RetL (nvs (gains m i t)) H Q
theorem cal_gaining_reports (T : Txt K mg) (c_prefers : C8.Cal P w K mg base 1 "prefers" sp_prefers []) (m_options : C8.Met P w K mg base 2 T.aI "options" (sp_Instance_options T.aI) []) {f : Addr} {fd : FuncData} (F : C8.Def K mg "gaining_reports" s_gaining_reports f fd) (b : Binds K fd ["instance", "agent", "profile"] []) : C8.Cal P w K mg base 3 "gaining_reports" (sp_gaining_reports T.aI) [] := by
  refine C8.cal0 F b .nil sc_gaining_reports (fun vs H Q E h => ?_) (fun cdv A outer s H vs Q E hr h => ⟨_, (pss_cons (ps_set (i := 3) sc_gaining_reports.nd rfl (Or.inr rfl) (pe_ix ix_list (pv 2) (pv 1) (fun _ _ => rfl)))
  (pss_cons (ps_set (i := 4) sc_gaining_reports.nd rfl (Or.inr rfl) (pe_ix ix_list (pe_ix ix_list (pe_fld (pv 0) rfl) (pv 1) (fun _ _ => rfl)) (pv 3) (fun _ _ => rfl)))
  (pss_cons (ps_set (i := 5) sc_gaining_reports.nd rfl (Or.inr rfl) (C8.pe_mt m_options hr (by decide) (pv 0) (pa_cons (pv 1) (pa_cons (pv 2) pa_nil))))
  (pss_one (ps_ret (pe_lc (own := [("other", 6), ("option", 7)]) rfl sc_gaining_reports.nd (pi_enum (by rfl) T.enumerate (pa_cons (pv 5) pa_nil)) (blkOk_by (own := [("other", 6), ("option", 7)]) (N := ["instance", "agent", "profile", "own_report", "own_ranking", "options", "other", "option"]) (sc := C8.fnScope (topS 15)) (by decide +kernel)) (fun _ _ _ _ _ => (pg_tupK (K := K) (n := 2) rfl rfl (pgs_cons (pg_name (i := 6) sc_gaining_reports.nd rfl (Or.inl rfl)) (pgs_cons (pg_name (i := 7) sc_gaining_reports.nd rfl (Or.inl rfl)) pgs_nil)))) (fun _ _ _ _ _ => (pts_one (pt_val (C8.pe_c c_prefers hr (by decide) rfl (pa_cons (pv 4) (pa_cons (pv 7) (pa_cons (pe_ix (ix_listK (K := K) rfl) (pv 5) (pv 3) (fun _ _ => rfl)) pa_nil))))))) (fun _ _ _ _ _ => (pv 6)))))))), ?_⟩)
  · obtain ⟨a, D, O, r, m, i, t, rfl, _⟩ := h
    rfl
  · obtain ⟨a, D, O, r, m, i, t, rfl, hI, W, hr, hp, hi, q⟩ := h
    obtain ⟨ds, qs, d, pr, h1, hd, h2, hpr, hrk⟩ := hI.rank W hp hi
    have htl := isProfile_len hp
    have hti : t[i]? = some (t.getD i 0) := getD_at (by omega)
    have hpref := rep_pref W hp hi
    refine q_asg (v := nv (t.getD i 0)) (ev_ix (ev_var rfl) (ev_var rfl) (sq_of hr) (nvs_at hti)) fun H1 e1 => ?_
    refine q_asg (v := .ref pr) (ev_ix (ev_ix (ev_D T (hI.mono e1) (ev_var rfl)) (ev_var rfl) (sq_of (e1 D _ h1)) (rfs_at hd)) (ev_var rfl) (sq_of (e1 d _ h2)) (rfs_at hpr)) fun H2 e2 => ?_
    refine q_asgL (xs := nvs (m.options i t)) (el_im T (hI.mono (e1.trans e2)) (ev_var rfl) (ea_cons (ev_var rfl) (ea_cons (ev_var rfl) ea_nil)) fun H3 e3 Q3 q3 E3 => ⟨a, D, O, r, m, i, t, rfl, (hI.mono (e1.trans e2)).mono e3, W, ((e1.trans e2).trans e3) r _ hr, hp, hi, q3⟩) fun po H3 hpo e3 hlo => ?_
    have hol : (m.options i t).length = (m.domain i).length := by
      unfold SocialChoice.options
      rw [List.length_map, List.length_range]
    have hex := (e1.trans e2).trans e3
    refine s_retL (xs := nvs (gains m i t)) ?_ fun p H4 hp4 e4 hl4 => q p H4 (fresh_back hex hp4) (hex.trans e4) hl4
    have hd6 : (m.domain i).length ≤ 6 := W.d6 _ (List.mem_of_getElem? (dom_at W hi))
    have eg : nvs (gains m i t) = given (nvs (m.options i t)).length (fun k => Su193.prefers (m.reported i t) (m.outcome (Su193.deviate t i k)) (m.outcome t)) (fun k => nv k) := by
      rw [List.length_map, hol]
      rfl
    rw [eg]
    refine el_lcE (K := K) (xs := nvs (m.options i t)) _ _ (ea_cons (ev_var rfl) ea_nil) (sq_of hlo) (by rw [List.length_map, hol]; omega) (fun x y => rfl) (fun k x H4 e4 hx => ?_) (fun k x H4 e4 hx _ => ev_var rfl)
    obtain ⟨o, ho, rfl⟩ := nvs_get hx
    have hkl : k < (m.domain i).length := by
      have := (List.getElem?_eq_some_iff.mp ho).1
      omega
    rw [opt_at hkl] at ho
    cases ho
    refine et_B (ev_call (ea_cons (ev_var rfl) (ea_cons (ev_var rfl) (ea_cons (x := nv (m.outcome t)) (ev_ix (i := t.getD i 0) (ev_var rfl) (ev_var rfl) (sq_of (e4 po _ hlo)) ?_) ea_nil))) fun H5 e5 Q5 q5 E5 => ⟨pr, m.reported i t, _, m.outcome t, rfl, ((hex.trans e4).trans e5) pr _ hrk, pref_mem hpref (out_lt W _), pref_mem hpref (out_lt W _), q5⟩)
    have hopt := opt_at (m := m) (t := t) (i := i) (k := t.getD i 0) (isProfile_lt hp hi)
    rw [dev_self (by omega)] at hopt
    exact nvs_at hopt
/-! ### first_manipulation, manipulation_count -/
def firstMan (m : SocialChoice) : Option (List Nat) := m.manipulations.head?.map fun z => z.2.1 :: z.2.2 :: z.1
theorem filterMap_if {α β : Type} {p : α → Bool} {f : α → β} (l : List α) : (l.filterMap fun k => if p k = true then some (f k) else none) = (l.filter p).map f := by
  induction l with
  | nil => rfl
  | cons x l ih =>
    rw [List.filterMap_cons, List.filter_cons]
    split
    · rename_i h
      split at h
      · cases h
      · rename_i h2
        rw [if_neg h2, ih]
    · rename_i b h
      split at h
      · rename_i h2
        rw [if_pos h2, List.map_cons, ih]
        cases h
        rfl
      · cases h
theorem mans_eq (m : SocialChoice) : m.manipulations = m.profiles.flatMap fun t => m.agents.flatMap fun i => (gains m i t).map fun k => (t, i, k) := by
  unfold SocialChoice.manipulations gains
  congr 1
  funext t
  congr 1
  funext i
  exact filterMap_if _
theorem head_flat {α β : Type} {g : α → List β} {b : β} : ∀ {l : List α} {k : Nat} {x : α}, l[k]? = some x → (∀ k' x', k' < k → l[k']? = some x' → g x' = []) → (g x).head? = some b → (l.flatMap g).head? = some b
  | [], _, _, h, _, _ => by simp at h
  | y :: l, 0, x, h, _, hb => by
    cases h
    rw [List.flatMap_cons, List.head?_append, hb]
    rfl
  | y :: l, k + 1, x, h, hn, hb => by
    rw [List.flatMap_cons, hn 0 y (Nat.succ_pos k) rfl, List.nil_append]
    exact head_flat (k := k) h (fun k' x' hk' hx' => hn (k' + 1) x' (by omega) hx') hb
theorem man_none (h : ∀ t ∈ m.profiles, ∀ i, i < m.agentCount → gains m i t = []) : firstMan m = none := by
  have e : m.manipulations = [] := by
    rw [mans_eq]
    refine List.flatMap_eq_nil_iff.mpr fun t ht => List.flatMap_eq_nil_iff.mpr fun i hi => ?_
    rw [h t ht i (List.mem_range.mp hi)]
    rfl
  unfold firstMan
  rw [e]
  rfl
theorem man_some {k i gk : Nat} {t : List Nat} {gs : List Nat} (hk : m.profiles[k]? = some t) (h1 : ∀ k' t', k' < k → m.profiles[k']? = some t' → ∀ i, i < m.agentCount → gains m i t' = []) (h2 : ∀ i', i' < i → gains m i' t = []) (hi : i < m.agentCount) (h3 : gains m i t = gk :: gs) : firstMan m = some (i :: gk :: t) := by
  have e : m.manipulations.head? = some (t, i, gk) := by
    rw [mans_eq]
    refine head_flat hk (fun k' t' hk' ht' => List.flatMap_eq_nil_iff.mpr fun j hj => ?_) (head_flat (k := i) (x := i) (List.getElem?_range hi) (fun j' j hj hj' => ?_) ?_)
    · rw [h1 k' t' hk' ht' j (List.mem_range.mp hj)]
      rfl
    · have hjn : j' < m.agentCount := by omega
      have e2 : (List.range m.agentCount)[j']? = some j := hj'
      rw [List.getElem?_range hjn] at e2
      rw [← Option.some.inj e2, h2 j' hj]
      rfl
    · rw [h3]
      rfl
  unfold firstMan
  rw [e]
  rfl
theorem filter_one {α : Type} {g : Nat → List α} {p : α → Bool} {i : Nat} (h1 : ∀ j, ∀ x ∈ g j, p x = decide (j = i)) : ∀ n, (((List.range n).flatMap g).filter p) = if i < n then g i else []
  | 0 => rfl
  | n + 1 => by
    rw [List.range_succ, List.flatMap_append, List.filter_append, filter_one h1 n, List.flatMap_cons, List.flatMap_nil, List.append_nil]
    by_cases hn : n = i
    · subst hn
      rw [if_neg (by omega), if_pos (by omega), List.nil_append]
      exact List.filter_eq_self.mpr fun x hx => by rw [h1 n x hx]; exact decide_eq_true rfl
    · have e : (g n).filter p = [] := List.filter_eq_nil_iff.mpr fun x hx => by rw [h1 n x hx, decide_eq_false hn]; decide
      rw [e, List.append_nil]
      by_cases hi : i < n
      · rw [if_pos hi, if_pos (by omega)]
      · rw [if_neg hi, if_neg (by omega)]
theorem man_count (i : Nat) (hi : i < m.agentCount) : (m.profiles.map fun t => (gains m i t).length).sum = (m.manipulations.filter fun z => z.2.1 == i).length := by
  rw [mans_eq, List.filter_flatMap, List.length_flatMap]
  congr 1
  refine List.map_congr_left fun t _ => ?_
  have h := filter_one (g := fun j => (gains m j t).map fun k => (t, j, k)) (p := fun z : List Nat × Nat × Nat => z.2.1 == i) (i := i) (fun j x hx => by
    obtain ⟨k, _, rfl⟩ := List.mem_map.mp hx
    show (j == i) = decide (j = i)
    rw [Bool.eq_iff_iff, beq_iff_eq, decide_eq_true_iff]) m.agentCount
  unfold SocialChoice.agents
  rw [h, if_pos hi, List.length_map]
theorem prof_ok {t : List Nat} (W : WF m) (h : t ∈ m.profiles) : m.isProfile t = true := by
  obtain ⟨n, hn⟩ := List.getElem?_of_mem h
  exact (prof_get W.dl hn).1
abbrev s_first_manipulation : Stmt := topS 16
theorem sc_first_manipulation : FnScope ["instance", "profile", "agent", "gaining"] ["instance"] (C8.fnScope (topS 16)) := C8.fnScope_by (by decide +kernel)
def sp_first_manipulation (CI : Addr) : Sp := fun vs H Q _ => ∃ (a D O : Addr) (m : SocialChoice), vs = [.ref a] ∧ InstAt CI H a D O m ∧ WF m ∧ RetO (firstMan m) H Q
theorem cal_first_manipulation (T : Txt K mg) (m_all_profiles : C8.Met P w K mg base 2 T.aI "all_profiles" (sp_Instance_all_profiles T.aI) []) (c_gaining_reports : C8.Cal P w K mg base 3 "gaining_reports" (sp_gaining_reports T.aI) []) {f : Addr} {fd : FuncData} (F : C8.Def K mg "first_manipulation" s_first_manipulation f fd) (b : Binds K fd ["instance"] []) : C8.Cal P w K mg base 4 "first_manipulation" (sp_first_manipulation T.aI) [] := by
  refine C8.cal0 F b .nil sc_first_manipulation (fun vs H Q E h => ?_) (fun cdv A outer s H vs Q E hr h => ⟨_, (pss_cons (ps_for PassesOwn.never rfl (pi_list (C8.pe_mt0 m_all_profiles hr (by decide) (pv 0))) (pg_name (i := 1) sc_first_manipulation.nd rfl (Or.inl rfl))
  (pss_one (ps_for PassesOwn.never rfl (pi_range1 (by rfl) T.range (pa_cons (pe_fld (pv 0) rfl) pa_nil)) (pg_name (i := 2) sc_first_manipulation.nd rfl (Or.inl rfl))
  (pss_cons (ps_set (i := 3) sc_first_manipulation.nd rfl (Or.inl rfl) (C8.pe_c c_gaining_reports hr (by decide) rfl (pa_cons (pv 0) (pa_cons (pv 2) (pa_cons (pv 1) pa_nil)))))
  (pss_one (ps_if (pt_cmpR op_gt (pe_callB call_len_seq (by rfl) T.len PySem.boot_len (pa_cons (pv 3) pa_nil)) pe_int (nomark _))
  (pss_one (ps_ret (pe_op op_cat (pe_lst (pa_cons (pv 2) (pa_cons (pe_ix ix_list (pv 3) pe_int (fun _ _ => rfl)) pa_nil))) (pv 1))))
  pss_nil))))))
  (pss_one (ps_ret pe_non))), ?_⟩)
  · obtain ⟨a, D, O, m, rfl, _⟩ := h
    rfl
  · obtain ⟨a, D, O, m, rfl, hI, W, q⟩ := h
    have hn3 := W.n3
    have hpl := profiles_len W
    refine q_forLLN (rs := m.profiles) (ep_im T hI (ev_var rfl) ea_nil fun H1 e1 Q1 q1 E1 => ⟨a, D, O, m, rfl, hI.mono e1, sm_doms W, q1⟩) (fun H1 i σ' H' => Ex H1 H' ∧ Ex H H' ∧ (∀ k' t', k' < i → m.profiles[k']? = some t' → ∀ j, j < m.agentCount → gains m j t' = []) ∧ ∃ x y z : Option V, σ' = [some (.ref a), x, y, z]) (fun H1 e1 => ⟨Ex.refl H1, e1, fun k' t' h => absurd h (Nat.not_lt_zero _), none, none, none, rfl⟩) (fun H1 i σ' H' z => z.1) ?_ ?_
    · rintro H1 e1 i r t σ' H' ht hr ⟨e1', e, hno, x, y, z, rfl⟩
      have hp := prof_ok W (List.mem_of_getElem? ht)
      have htl := isProfile_len hp
      refine s_forR1 (n := (m.agentCount : Int)) (ea_cons (ev_n T (hI.mono e) (ev_var rfl)) ea_nil) (by omega) (fun j σ2 H2 => Ex H1 H2 ∧ Ex H H2 ∧ H2 r = some (.lst (nvs t)) ∧ (∀ j', j' < j → gains m j' t = []) ∧ ∃ y z : Option V, σ2 = [some (.ref a), some (.ref r), y, z]) (fun H2 e2 => ⟨e1'.trans e2, e.trans e2, e2 r _ hr, fun j' h => absurd h (Nat.not_lt_zero _), y, z, rfl⟩) ?_ ?_
      · rintro j σ2 H2 hj ⟨e2', e2, hr2, hno2, y, z, rfl⟩
        have hj' : j < m.agentCount := by omega
        have hd6 : (m.domain j).length ≤ 6 := W.d6 _ (List.mem_of_getElem? (dom_at W hj'))
        refine q_asgL (xs := nvs (gains m j t)) (el_call (ea_cons (ev_var rfl) (ea_cons (ev_var rfl) (ea_cons (ev_var rfl) ea_nil))) fun H3 e3 Q3 q3 E3 => ⟨a, D, O, r, m, j, t, rfl, hI.mono (e2.trans e3), W, e3 r _ hr2, hp, hj', q3⟩) fun pg H3 hpg e3 hlg => ?_
        refine s_when (b := decide (0 < (gains m j t).length)) (et_test (ev_gt (b := 0) (ev_is (ev_len (ev_var rfl) (sq_of hlg)) (by show V.int _ = V.int _; rw [List.length_map])) ev_c)) (fun hb H4 e4 => ?_) (fun hb H4 e4 => ?_)
        · have hpos : 0 < (gains m j t).length := of_decide_eq_true hb
          obtain ⟨gk, gs, hg⟩ : ∃ gk gs, gains m j t = gk :: gs := by
            cases hg : gains m j t with
            | nil =>
              rw [hg] at hpos
              cases hpos
            | cons gk gs => exact ⟨gk, gs, rfl⟩
          have hm := man_some ht hno hno2 hj' hg
          rw [hm] at q
          have hex := (e2.trans e3).trans e4
          refine s_retL (xs := nvs (j :: gk :: t)) ?_ fun p H5 hp5 e5 hl5 => q p H5 (fresh_back hex hp5) (hex.trans e5) hl5
          have r1 := el_catL (σ := [some (.ref a), some (.ref r), some (nv j), some (.ref pg)]) (H := H4) (ta := tLst (tCons (tVar 2) (tCons (tOp (rIxL K) (tVar 3) (tC (.int 0))) tNil))) (tb := tVar 1) (xs := [nv j, nv gk]) (ys := nvs t) (el_lst (ea_cons (ev_var rfl) (ea_cons (ev_ix (i := 0) (ev_var rfl) ev_c (sq_of (e4 pg _ hlg)) (nvs_at (by rw [hg]; rfl))) ea_nil)) (by show 2 ≤ 100000; decide)) (ev_var rfl) ((e3.trans e4) r _ hr2) (by rw [List.length_map]; show 2 + t.length ≤ 100000; omega)
          exact r1
        · refine ⟨(e2'.trans e3).trans e4, (e2.trans e3).trans e4, (e3.trans e4) r _ hr2, fun j' hj2 => ?_, some (nv j), some (.ref pg), rfl⟩
          by_cases hlast : j' = j
          · rw [hlast]
            have : ¬ 0 < (gains m j t).length := of_decide_eq_false hb
            exact List.length_eq_zero_iff.mp (by omega)
          · exact hno2 j' (by omega)
      · rintro σ2 H2 ⟨e2', e2, hr2, hno2, y, z, rfl⟩
        refine ⟨e2', e2, fun k' t' hk ht' => ?_, some (.ref r), y, z, rfl⟩
        by_cases hlast : k' = i
        · subst hlast
          rw [ht] at ht'
          cases ht'
          exact fun j hj => hno2 j (by omega)
        · exact hno k' t' (by omega) ht'
    · rintro H1 e1 σ' H' ⟨e1', e, hno, x, y, z, rfl⟩
      have hm := man_none (m := m) fun t ht => by
        obtain ⟨k, hk⟩ := List.getElem?_of_mem ht
        exact hno k t (List.getElem?_eq_some_iff.mp hk).1 hk
      rw [hm] at q
      exact s_ret (v := .non) ev_c fun H2 e2 => q H2 (e.trans e2)
abbrev s_manipulation_count : Stmt := topS 17
theorem sc_manipulation_count : FnScope ["instance", "agent", "profile"] ["instance", "agent"] (C8.fnScope (topS 17)) := C8.fnScope_by (by decide +kernel)
def sp_manipulation_count (CI : Addr) : Sp := fun vs H Q _ => ∃ (a D O : Addr) (m : SocialChoice) (i : Nat), vs = [.ref a, nv i] ∧ InstAt CI H a D O m ∧ WF m ∧ i < m.agentCount ∧ RetV (nv (m.manipulations.filter fun z => z.2.1 == i).length) H Q
theorem cal_manipulation_count (T : Txt K mg) (m_all_profiles : C8.Met P w K mg base 2 T.aI "all_profiles" (sp_Instance_all_profiles T.aI) []) (c_gaining_reports : C8.Cal P w K mg base 3 "gaining_reports" (sp_gaining_reports T.aI) []) {f : Addr} {fd : FuncData} (F : C8.Def K mg "manipulation_count" s_manipulation_count f fd) (b : Binds K fd ["instance", "agent"] []) : C8.Cal P w K mg base 4 "manipulation_count" (sp_manipulation_count T.aI) [] := by
  refine C8.cal0 F b .nil sc_manipulation_count (fun vs H Q E h => ?_) (fun cdv A outer s H vs Q E hr h => ⟨_, (pss_one (ps_ret (pe_callB (cr_sum rfl) (by rfl) T.sum (by decide +kernel) (pa_cons (pe_lc (own := [("profile", 2)]) (g := gName 2) (tt := tYes) rfl sc_manipulation_count.nd (pi_list (C8.pe_mt0 m_all_profiles hr (by decide) (pv 0))) (blkOk_by (own := [("profile", 2)]) (N := ["instance", "agent", "profile"]) (sc := C8.fnScope (topS 17)) (by decide +kernel)) (fun _ _ _ _ _ => (pg_name (i := 2) sc_manipulation_count.nd rfl (Or.inl rfl))) (fun _ _ _ _ _ => pts_nil) (fun _ _ _ _ _ => (pe_callB (call_lenK (K := K) rfl) (by rfl) T.len PySem.boot_len (pa_cons (C8.pe_c c_gaining_reports hr (by decide) rfl (pa_cons (pv 0) (pa_cons (pv 1) (pa_cons (pv 2) pa_nil)))) pa_nil)))) pa_nil)))), ?_⟩)
  · obtain ⟨a, D, O, m, i, rfl, _⟩ := h
    rfl
  · obtain ⟨a, D, O, m, i, rfl, hI, W, hi, q⟩ := h
    have hpl := profiles_len W
    rw [← man_count i hi] at q
    refine s_ret (ev_sum ?_) fun H1 e1 => q H1 e1
    rw [nvs, List.map_map]
    refine el_lcLLN (K := K) (rs := m.profiles) (nv ∘ fun t => (gains m i t).length) (ep_im T hI (ev_var rfl) ea_nil fun H1 e1 Q1 q1 E1 => ⟨a, D, O, m, rfl, hI.mono e1, sm_doms W, q1⟩) (by omega) (fun x => rfl) fun k r t H1 e1 ht hr => ?_
    have hp := prof_ok W (List.mem_of_getElem? ht)
    have hlg := ev_lenN (K := K) (σ := [some (.ref a), some (nv i), some (.ref r)]) (ta := tCall (sp_gaining_reports T.aI) [] C8.E0 (tCons (tVar 0) (tCons (tVar 1) (tCons (tVar 2) tNil)))) (H := H1) (xs := nvs (gains m i t)) (el_call (ea_cons (ev_var rfl) (ea_cons (ev_var rfl) (ea_cons (ev_var rfl) ea_nil))) fun H3 e3 Q3 q3 E3 => ⟨a, D, O, r, m, i, t, rfl, hI.mono (e1.trans e3), W, e3 r _ hr, hp, hi, q3⟩)
    exact ev_is hlg (by show V.int _ = V.int _; rw [List.length_map])
end
end Tc
namespace Tc
open PySem PySem.Spec PyProof.Rows L2 Evl
open Su193 (SocialChoice)
section
variable {P : Program} {w : World} {K : PySem.W.Frag} {mg : Str → Option Value} {base : Heap} {σ : L2.St} {H H' : Hp} {ta tb te tv tl : TE} {a D O : Addr} {m : SocialChoice} {v : V} {Ds : Ends} {tu tz : TS} {g : TG}
/-! ### not_preferred, side by side -/
def npStep (x j : Nat) (r : List Nat) : Nat := j * 2 ^ r.length ||| maskL (r.drop (r.idxOf x))
def npJ (rs : List (List Nat)) (x : Nat) : Nat := rs.foldl (npStep x) 0
theorem maskL_lt {l : List Nat} {k : Nat} (h : ∀ x ∈ l, x < k) : maskL l < 2 ^ k := by
  have main : ∀ (l : List Nat) (b : Nat), b < 2 ^ k → (∀ x ∈ l, x < k) → l.foldl (fun m x => m ||| 1 * 2 ^ x) b < 2 ^ k := by
    intro l
    induction l with
    | nil => intro b hb _; exact hb
    | cons y l ih =>
      intro b hb hl
      rw [List.foldl_cons]
      refine ih _ (Nat.or_lt_two_pow hb ?_) fun x hx => hl x (List.mem_cons_of_mem _ hx)
      rw [Nat.one_mul]
      exact Nat.pow_lt_pow_right (by decide) (hl y (List.mem_cons_self ..))
  exact main l 0 (Nat.two_pow_pos k) h
theorem npJ_more {rs : List (List Nat)} {x i : Nat} {r : List Nat} (h : rs[i]? = some r) : npJ (rs.take (i + 1)) x = npStep x (npJ (rs.take i) x) r := by
  unfold npJ
  rw [take_more h, List.foldl_append]
  rfl
theorem npJ_lt {rs : List (List Nat)} {x k : Nat} (hk : ∀ r ∈ rs, r.length = k ∧ ∀ y ∈ r, y < k) : npJ rs x < 2 ^ (k * rs.length) := by
  have main : ∀ (rs : List (List Nat)) (b n : Nat), b < 2 ^ n → (∀ r ∈ rs, r.length = k ∧ ∀ y ∈ r, y < k) → rs.foldl (npStep x) b < 2 ^ (n + k * rs.length) := by
    intro rs
    induction rs with
    | nil => intro b n hb _; exact hb
    | cons r rs ih =>
      intro b n hb hr
      rw [List.foldl_cons]
      have h1 := hr r (List.mem_cons_self ..)
      have h2 := ih (npStep x b r) (n + k) (by
        unfold npStep
        refine Nat.or_lt_two_pow ?_ (Nat.lt_of_lt_of_le (maskL_lt (k := k) fun y hy => h1.2 y (List.mem_of_mem_drop hy)) (Nat.pow_le_pow_right (by decide) (by omega)))
        rw [h1.1, Nat.pow_add]
        exact Nat.mul_lt_mul_of_pos_right hb (Nat.two_pow_pos k)) fun r hr' => hr r (List.mem_cons_of_mem _ hr')
      rw [List.length_cons, Nat.mul_succ]
      have e : n + (k * rs.length + k) = n + k + k * rs.length := by omega
      rw [e]
      exact h2
  have h := main rs 0 0 (by decide) hk
  rw [Nat.zero_add] at h
  exact h
abbrev s_not_preferred : Stmt := topS 19
theorem sc_not_preferred : FnScope ["reported", "alternative", "joined", "ranking"] ["reported", "alternative"] (C8.fnScope (topS 19)) := C8.fnScope_by (by decide +kernel)
def sp_not_preferred : Sp := fun vs H Q _ => ∃ (p : Addr) (rs : List (List Nat)) (x k : Nat), vs = [.ref p, nv x] ∧ LLN H p rs ∧ k ≤ 4 ∧ rs.length ≤ 3 ∧ (∀ r ∈ rs, r.length = k ∧ x ∈ r ∧ ∀ y ∈ r, y < k) ∧ RetV (nv (npJ rs x)) H Q
theorem cal_not_preferred (T : Txt K mg) (c_mask_of : C8.Cal P w K mg base 1 "mask_of" sp_mask_of []) {f : Addr} {fd : FuncData} (F : C8.Def K mg "not_preferred" s_not_preferred f fd) (b : Binds K fd ["reported", "alternative"] []) : C8.Cal P w K mg base 2 "not_preferred" sp_not_preferred [] := by
  refine C8.cal0 F b .nil sc_not_preferred (fun vs H Q E h => ?_) (fun cdv A outer s H vs Q E hr h => ⟨_, (pss_cons (ps_set (i := 2) sc_not_preferred.nd rfl (Or.inl rfl) pe_int)
  (pss_cons (ps_for PassesOwn.never rfl (pi_list (pv 0)) (pg_name (i := 3) sc_not_preferred.nd rfl (Or.inl rfl))
  (pss_one (ps_set (i := 2) sc_not_preferred.nd rfl (Or.inl rfl) (pe_op op_or (pe_op op_shl (pv 2) (pe_callB call_len_seq (by rfl) T.len PySem.boot_len (pa_cons (pv 3) pa_nil))) (C8.pe_c c_mask_of hr (by decide) rfl (pa_cons (pe_slice sl_list (pv 3) (po_some (pe_bm PySem.F.plainAttrs_list PySem.F.slot_list_index PySem.F.type_list_index mt_index (pv 3) (pa_cons (pv 1) pa_nil))) po_none) pa_nil))))))
  (pss_one (ps_ret (pv 2))))), ?_⟩)
  · obtain ⟨p, rs, x, k, rfl, _⟩ := h
    rfl
  · obtain ⟨p, rs, x, k, rfl, hp, hk4, hr3, hr, q⟩ := h
    obtain ⟨qs, h1, h2, h3⟩ := hp.list
    refine q_asg (v := nv 0) ev_c fun H1 e1 => ?_
    refine q_forLn (a := p) (xs := rfs qs) (ev_var rfl) (sq_of (e1 p _ h1)) (fun i σ' H' => Ex H H' ∧ ∃ y : Option V, σ' = [some (.ref p), some (nv x), some (nv (npJ (rs.take i) x)), y]) (fun H2 e2 => ⟨e1.trans e2, none, rfl⟩) (fun i σ' H' _ z => sq_of (z.1 p _ h1)) ?_ ?_
    · rintro i y σ' H2 hi ⟨e2, y0, rfl⟩
      obtain ⟨d, hd, rfl⟩ := rfs_get hi
      obtain ⟨r, hra, hrr⟩ := h3 i d hd
      obtain ⟨g1, g2, g3⟩ := hr r (List.mem_of_getElem? hra)
      have hil : i < rs.length := (List.getElem?_eq_some_iff.mp hra).1
      have hb := npJ_lt (rs := rs.take i) (x := x) (k := k) fun r' hr' => ⟨(hr r' (List.mem_of_mem_take hr')).1, (hr r' (List.mem_of_mem_take hr')).2.2⟩
      have hb2 : npJ (rs.take i) x < 2 ^ 64 := Nat.lt_of_lt_of_le hb (Nat.pow_le_pow_right (by decide) (by
        rw [List.length_take]
        have : k * min i rs.length ≤ 4 * 3 := Nat.mul_le_mul hk4 (by omega)
        omega))
      refine s_asg (v := nv (npJ (rs.take (i + 1)) x)) ?_ fun H3 e3 => ⟨e2.trans e3, some (.ref d), rfl⟩
      rw [npJ_more hra]
      refine ev_or (ev_shl (a := npJ (rs.take i) x) (b := r.length) (ev_var rfl) (ev_is (ev_len (ev_var rfl) (sq_of (e2 d _ hrr))) (by show V.int _ = V.int _; rw [List.length_map])) hb2 (by omega)) ?_
      refine ev_callP (eap_L (xs := nvs (r.drop (r.idxOf x))) ?_ ea_nil) fun vs H3 e3 hv H4 e4 Q4 q4 E4 => ?_
      · have r1 := el_sl (K := K) (te := tVar 3) (tl := tPart (tBM K "list" (rIndex K) (tVar 3) (tCons (tVar 1) tNil))) (H := H2) (σ := [some (.ref p), some (nv x), some (nv (npJ (rs.take i) x)), some (.ref d)]) (lo := some ((r.idxOf x : Nat) : Int)) (hi := none) (ev_var rfl) (eo_some (ev_index (ev_var rfl) (ev_var rfl) (e2 d _ hrr) g2)) eo_none (sq_of (e2 d _ hrr))
        rw [cut_from, ← List.map_drop] at r1
        exact r1
      · obtain ⟨c, rfl, hc⟩ := hv
        exact ⟨c, _, rfl, e4 c _ hc, fun y hy => by have := g3 y (List.mem_of_mem_drop hy); omega, q4⟩
    · rintro σ' H2 ⟨e2, y0, rfl⟩
      rw [List.length_map, h2, List.take_length]
      exact s_ret (ev_var rfl) fun H3 e3 => q H3 (e2.trans e3)
def npTab (m : SocialChoice) (n : Nat) : List (List Nat) := (List.range n).map fun x => (reps m).map fun rs => npJ rs x
theorem reps_len (m : SocialChoice) : (reps m).length = m.profiles.length := List.length_map ..
theorem reps_ok (W : WF m) {rs : List (List Nat)} (h : rs ∈ reps m) : rs.length = m.agentCount ∧ ∀ r ∈ rs, Su193.isPreference m.alternativeCount r = true := by
  obtain ⟨t, ht, rfl⟩ := List.mem_map.mp h
  refine ⟨by rw [List.length_map]; exact List.length_range, fun r hr => ?_⟩
  obtain ⟨i, hi, rfl⟩ := List.mem_map.mp hr
  exact rep_pref W (prof_ok W ht) (List.mem_range.mp hi)
/-- items of a list of lists of lists -/
theorem RepAt.list {p : Addr} {rss : List (List (List Nat))} (h : RepAt H p rss) : ∃ qs : List Addr, H p = some (.lst (rfs qs)) ∧ qs.length = rss.length ∧ ∀ (i : Nat) (q : Addr), qs[i]? = some q → ∃ rs, rss[i]? = some rs ∧ LLN H q rs := by
  obtain ⟨qs, h1, h2⟩ := h
  exact ⟨qs, h1, plen h2, fun i q hq => pget' h2 hq⟩
abbrev s_not_preferred_by_alternative : Stmt := topS 20
theorem sc_not_preferred_by_alternative : FnScope ["instance", "all_reported", "found", "alternative", "reported"] ["instance"] (C8.fnScope (topS 20)) := C8.fnScope_by (by decide +kernel)
def sp_not_preferred_by_alternative (CI : Addr) : Sp := fun vs H Q _ => ∃ (a D O : Addr) (m : SocialChoice), vs = [.ref a] ∧ InstAt CI H a D O m ∧ WF m ∧ RetP (fun v H2 => ∃ c, v = .ref c ∧ LLN H2 c (npTab m m.alternativeCount)) H Q
theorem cal_not_preferred_by_alternative (T : Txt K mg) (c_not_preferred : C8.Cal P w K mg base 2 "not_preferred" sp_not_preferred []) (m_reported_rankings : C8.Met P w K mg base 2 T.aI "reported_rankings" (sp_Instance_reported_rankings T.aI) []) {f : Addr} {fd : FuncData} (F : C8.Def K mg "not_preferred_by_alternative" s_not_preferred_by_alternative f fd) (b : Binds K fd ["instance"] []) : C8.Cal P w K mg base 3 "not_preferred_by_alternative" (sp_not_preferred_by_alternative T.aI) [] := by
  refine C8.cal0 F b .nil sc_not_preferred_by_alternative (fun vs H Q E h => ?_) (fun cdv A outer s H vs Q E hr h => ⟨_, (pss_cons (ps_set (i := 1) sc_not_preferred_by_alternative.nd rfl (Or.inl rfl) (C8.pe_mt0 m_reported_rankings hr (by decide) (pv 0)))
  (pss_cons (ps_set (i := 2) sc_not_preferred_by_alternative.nd rfl (Or.inl rfl) (pe_lst pa_nil))
  (pss_cons (ps_for PassesOwn.never rfl (pi_range1 (by rfl) T.range (pa_cons (pe_fld (pv 0) rfl) pa_nil)) (pg_name (i := 3) sc_not_preferred_by_alternative.nd rfl (Or.inr rfl))
  (pss_one (ps_expr (pe_bm PySem.F.plainAttrs_list PySem.F.slot_list_append PySem.F.type_list_append mt_append (pv 2) (pa_cons (pe_lc (own := [("reported", 4)]) (g := gName 4) (tt := tYes) rfl sc_not_preferred_by_alternative.nd (pi_list (pv 1)) (blkOk_by (own := [("reported", 4)]) (N := ["instance", "all_reported", "found", "alternative", "reported"]) (sc := C8.fnScope (topS 20)) (by decide +kernel)) (fun _ _ _ _ _ => (pg_name (i := 4) sc_not_preferred_by_alternative.nd rfl (Or.inl rfl))) (fun _ _ _ _ _ => pts_nil) (fun _ _ _ _ _ => (C8.pe_c c_not_preferred hr (by decide) rfl (pa_cons (pv 4) (pa_cons (pv 3) pa_nil))))) pa_nil)))))
  (pss_one (ps_ret (pv 2)))))), ?_⟩)
  · obtain ⟨a, D, O, m, rfl, _⟩ := h
    rfl
  · obtain ⟨a, D, O, m, rfl, hI, W, q⟩ := h
    have hk4 := W.k4
    have hn3 := W.n3
    have hpl := profiles_len W
    refine q_asgP (P := fun v H2 => ∃ c, v = .ref c ∧ RepAt H2 c (reps m)) (ep_im T hI (ev_var rfl) ea_nil fun H1 e1 Q1 q1 E1 => ⟨a, D, O, m, rfl, hI.mono e1, W, q1⟩) fun v H1 e1 hv => ?_
    obtain ⟨c, rfl, hc⟩ := hv
    obtain ⟨qs, g1, g2, g3⟩ := hc.list
    refine q_asgL (xs := []) (el_lst ea_nil (by decide)) fun pf H2 hpf e2 hlf => ?_
    refine q_forR1 (n := (m.alternativeCount : Int)) (ea_cons (ev_k T (hI.mono (e1.trans e2)) (ev_var rfl)) ea_nil) (by omega) (fun i σ' H' => Bld H1 pf ((npTab m i).map nvs) H' ∧ ∃ x y : Option V, σ' = [some (.ref a), some (.ref c), some (.ref pf), x, y]) (fun H3 e3 => ⟨Bld.start hpf (e2.trans e3) (e3 pf _ hlf), none, none, rfl⟩) ?_ ?_
    · rintro i σ' H3 hi ⟨hb, x, y, rfl⟩
      have hi' : i < m.alternativeCount := by omega
      refine s_bld hb (ev_var rfl) (ys := nvs ((reps m).map fun rs => npJ rs i)) ?_ (by rw [List.length_map, npTab, List.length_map, List.length_range]; omega) fun H4 hb4 => ⟨?_, some (nv i), y, rfl⟩
      · rw [nvs, List.map_map]
        refine el_lcDm (K := K) (xs := rfs qs) (ds := reps m) (nv ∘ fun rs => npJ rs i) (ev_var rfl) (sq_of (hb.ex c _ g1)) (by rw [List.length_map, g2]) (by rw [reps_len]; omega) (fun x => rfl) fun j z rs H4 e4 hz hrs => ?_
        obtain ⟨d, hd, rfl⟩ := rfs_get hz
        obtain ⟨rs', hrs', hl⟩ := g3 j d hd
        rw [hrs] at hrs'
        have e5 : rs = rs' := Option.some.inj hrs'
        subst e5
        obtain ⟨w1, w2⟩ := reps_ok W (List.mem_of_getElem? hrs)
        exact ev_call (ea_cons (ev_var rfl) (ea_cons (ev_var rfl) ea_nil)) fun H5 e5 Q5 q5 E5 => ⟨d, rs, i, m.alternativeCount, rfl, LLN.mono ((hb.ex.trans e4).trans e5) hl, hk4, by omega, fun r hr => ⟨pref_len (w2 r hr), pref_mem (w2 r hr) hi', fun y hy => pref_lt (w2 r hr) hy⟩, q5⟩
      · unfold npTab
        rw [List.range_succ, List.map_append, List.map_append]
        exact hb4
    · rintro σ' H3 ⟨hb, x, y, rfl⟩
      rw [Int.toNat_natCast] at hb
      exact s_ret (ev_var rfl) fun H4 e4 => q _ H4 ((e1.trans hb.ex).trans e4) ⟨pf, rfl, LLN.mono e4 hb.llv⟩
/-! ### first_that_violates -/
def fvOk (outs masks : List Nat) (pl j : Nat) : Bool := decide (masks.getD pl 0 &&& masks.getD j 0 = masks.getD pl 0) && !decide (outs.getD j 0 = outs.getD pl 0)
def fv (outs masks : List Nat) (pl : Nat) : Option Nat := (List.range masks.length).find? (fvOk outs masks pl)
def optV (o : Option Nat) : V := match o with
  | none => .non
  | some j => nv j
theorem find_range {p : Nat → Bool} {i : Nat} (h : ∀ j, j < i → p j = false) : ∀ n, (List.range n).find? p = none ∨ True := fun _ => .inr trivial
theorem find_range_some {p : Nat → Bool} {i n : Nat} (hi : i < n) (hp : p i = true) (h : ∀ j, j < i → p j = false) : (List.range n).find? p = some i := by
  rw [List.find?_range_eq_some]
  exact ⟨hp, List.mem_range.mpr hi, fun j hj => by rw [h j hj]; rfl⟩
theorem find_range_none {p : Nat → Bool} {n : Nat} (h : ∀ j, j < n → p j = false) : (List.range n).find? p = none := by
  rw [List.find?_eq_none]
  exact fun j hj => by rw [h j (List.mem_range.mp hj)]; decide
abbrev s_first_that_violates : Stmt := topS 21
theorem sc_first_that_violates : FnScope ["place", "outcomes", "masks", "selected", "kept", "other", "mask"] ["place", "outcomes", "masks"] (C8.fnScope (topS 21)) := C8.fnScope_by (by decide +kernel)
def sp_first_that_violates : Sp := fun vs H Q _ => ∃ (po pm : Addr) (outs masks : List Nat) (pl : Nat), vs = [nv pl, .ref po, .ref pm] ∧ H po = some (.lst (nvs outs)) ∧ H pm = some (.lst (nvs masks)) ∧ outs.length = masks.length ∧ pl < outs.length ∧ masks.length ≤ 1000 ∧ RetV (optV (fv outs masks pl)) H Q
theorem cal_first_that_violates (T : Txt K mg) {f : Addr} {fd : FuncData} (F : C8.Def K mg "first_that_violates" s_first_that_violates f fd) (b : Binds K fd ["place", "outcomes", "masks"] []) : C8.Cal P w K mg base 1 "first_that_violates" sp_first_that_violates [] := by
  refine C8.cal0 F b .nil sc_first_that_violates (fun vs H Q E h => ?_) (fun cdv A outer s H vs Q E hr h => ⟨_, (pss_cons (ps_set (i := 3) sc_first_that_violates.nd rfl (Or.inl rfl) (pe_ix ix_list (pv 1) (pv 0) (fun _ _ => rfl)))
  (pss_cons (ps_set (i := 4) sc_first_that_violates.nd rfl (Or.inl rfl) (pe_ix ix_list (pv 2) (pv 0) (fun _ _ => rfl)))
  (pss_cons (ps_for PassesOwn.never rfl (pi_enum (by rfl) T.enumerate (pa_cons (pv 2) pa_nil)) (pg_tup rfl (pgs_cons (pg_name (i := 5) sc_first_that_violates.nd rfl (Or.inl rfl)) (pgs_cons (pg_name (i := 6) sc_first_that_violates.nd rfl (Or.inl rfl)) pgs_nil)))
  (pss_one (ps_if (PW.pt (pw_and (pt_cmpR op_eq (pe_op op_and (pv 4) (pv 6)) (pv 4) (nomark _)) (pw_and1 (pt_cmpR op_ne (pe_ix ix_list (pv 1) (pv 5) (fun _ _ => rfl)) (pv 3) (nomark _)))))
  (pss_one (ps_ret (pv 5)))
  pss_nil)))
  (pss_one (ps_ret pe_non))))), ?_⟩)
  · obtain ⟨po, pm, outs, masks, pl, rfl, _⟩ := h
    rfl
  · obtain ⟨po, pm, outs, masks, pl, rfl, ho, hm, hl, hpl, hz, q⟩ := h
    refine q_asg (v := nv (outs.getD pl 0)) (ev_ix (ev_var rfl) (ev_var rfl) (sq_of ho) (nvs_at (getD_at hpl))) fun H1 e1 => ?_
    refine q_asg (v := nv (masks.getD pl 0)) (ev_ix (ev_var rfl) (ev_var rfl) (sq_of (e1 pm _ hm)) (nvs_at (getD_at (by omega)))) fun H2 e2 => ?_
    refine q_forE (xs := nvs masks) (ea_cons (ev_var rfl) ea_nil) (sq_of ((e1.trans e2) pm _ hm)) (fun i σ' H' => Ex H H' ∧ (∀ j, j < i → fvOk outs masks pl j = false) ∧ ∃ x y : Option V, σ' = [some (nv pl), some (.ref po), some (.ref pm), some (nv (outs.getD pl 0)), some (nv (masks.getD pl 0)), x, y]) (fun H3 e3 => ⟨(e1.trans e2).trans e3, fun j h => absurd h (Nat.not_lt_zero _), none, none, rfl⟩) (fun i σ' H3 H4 z e => ⟨z.1.trans e, z.2⟩) (fun i σ' H' _ z => sq_of (z.1 pm _ hm)) ?_ ?_
    · rintro i z σ' H3 hi ⟨e3, hno, x, y, rfl⟩
      obtain ⟨mk, hmk, rfl⟩ := nvs_get hi
      have hil : i < masks.length := (List.getElem?_eq_some_iff.mp hmk).1
      have hmd : masks.getD i 0 = mk := by rw [List.getD_eq_getElem?_getD, hmk]; rfl
      refine s_when (b := fvOk outs masks pl i) (et_is (a := decide (masks.getD pl 0 &&& mk = masks.getD pl 0) && !decide (outs.getD i 0 = outs.getD pl 0)) (et_and (et_test (ev_eqn (ev_and (ev_var rfl) (ev_var rfl)) (ev_var rfl))) fun _ => et_test (ev_ne (ev_ix (ev_var rfl) (ev_var rfl) (sq_of (e3 po _ ho)) (nvs_at (getD_at (by omega)))) (ev_var rfl))) (by unfold fvOk; rw [hmd])) (fun hb H4 e4 => ?_) (fun hb H4 e4 => ?_)
      · have hf : fv outs masks pl = some i := find_range_some hil hb hno
        rw [hf] at q
        exact s_ret (v := nv i) (ev_var rfl) fun H5 e5 => q H5 ((e3.trans e4).trans e5)
      · refine ⟨e3.trans e4, fun j hj => ?_, some (nv i), some (nv mk), rfl⟩
        by_cases hlast : j = i
        · rw [hlast]
          exact hb
        · exact hno j (by omega)
    · rintro σ' H3 ⟨e3, hno, x, y, rfl⟩
      rw [List.length_map] at hno
      have hf : fv outs masks pl = none := find_range_none hno
      rw [hf] at q
      exact s_ret (v := .non) ev_c fun H5 e5 => q H5 (e3.trans e5)
/-! ### first_monotonicity_violation -/
def firstMon (m : SocialChoice) : Option (List Nat) := m.monotonicityViolation.map fun z => z.1 ++ z.2
def monRow (m : SocialChoice) (x : Nat) : List Nat := (reps m).map fun rs => npJ rs x
theorem npJ_sub {k x : Nat} : ∀ (rs rs2 : List (List Nat)) (b b2 : Nat), rs.length = rs2.length → (∀ r ∈ rs, r.length = k ∧ ∀ y ∈ r, y < k) → (∀ r ∈ rs2, r.length = k ∧ ∀ y ∈ r, y < k) →
    ((rs.foldl (npStep x) b &&& rs2.foldl (npStep x) b2 = rs.foldl (npStep x) b) ↔ (b &&& b2 = b ∧ ∀ (i : Nat) (r r2 : List Nat), rs[i]? = some r → rs2[i]? = some r2 → ∀ y ∈ r.drop (r.idxOf x), y ∈ r2.drop (r2.idxOf x)))
  | [], [], b, b2, _, _, _ => ⟨fun h => ⟨h, fun i r r2 h => by simp at h⟩, fun h => h.1⟩
  | r :: rs, r2 :: rs2, b, b2, hl, h1, h2 => by
    have g1 := h1 r (List.mem_cons_self ..)
    have g2 := h2 r2 (List.mem_cons_self ..)
    rw [List.foldl_cons, List.foldl_cons, npJ_sub rs rs2 _ _ (by simpa using hl) (fun r hr => h1 r (List.mem_cons_of_mem _ hr)) (fun r hr => h2 r (List.mem_cons_of_mem _ hr))]
    unfold npStep
    rw [g1.1, g2.1, join_sub (maskL_lt fun y hy => g1.2 y (List.mem_of_mem_drop hy)) (maskL_lt fun y hy => g2.2 y (List.mem_of_mem_drop hy)), maskL_sub]
    constructor
    · rintro ⟨⟨a1, a2⟩, a3⟩
      refine ⟨a1, fun i s s2 hs hs2 => ?_⟩
      cases i with
      | zero =>
        cases hs
        cases hs2
        exact a2
      | succ i => exact a3 i s s2 hs hs2
    · rintro ⟨a1, a2⟩
      exact ⟨⟨a1, a2 0 r r2 rfl rfl⟩, fun i s s2 hs hs2 => a2 (i + 1) s s2 hs hs2⟩
  | [], _ :: _, _, _, hl, _, _ => by simp at hl
  | _ :: _, [], _, _, hl, _, _ => by simp at hl
theorem mem_dropIdx {r : List Nat} {x y : Nat} (nd : r.Nodup) (hy : y ∈ r) : y ∈ r.drop (r.idxOf x) ↔ ¬ r.idxOf y < r.idxOf x := by
  constructor
  · intro h
    obtain ⟨j, hj⟩ := List.getElem?_of_mem h
    rw [List.getElem?_drop] at hj
    have hl := (List.getElem?_eq_some_iff.mp hj).1
    have hv := (List.getElem?_eq_some_iff.mp hj).2
    have e := nd.idxOf_getElem _ hl
    rw [hv] at e
    omega
  · intro h
    have hl := List.idxOf_lt_length_of_mem hy
    refine List.mem_of_getElem? (i := r.idxOf y - r.idxOf x) ?_
    rw [List.getElem?_drop, show r.idxOf x + (r.idxOf y - r.idxOf x) = r.idxOf y by omega, List.getElem?_eq_getElem hl, List.getElem_idxOf]
theorem out_atM (W : WF m) {k : Nat} {t : List Nat} (ht : m.profiles[k]? = some t) : m.outcomes[k]? = some (m.outcome t) := by
  have hk := (List.getElem?_eq_some_iff.mp ht).1
  rw [← W.ol] at hk
  have hi := (prof_get W.dl ht).2
  unfold SocialChoice.outcome
  rw [hi]
  exact getD_at hk
theorem monRow_at {x k : Nat} {t : List Nat} (ht : m.profiles[k]? = some t) : (monRow m x).getD k 0 = npJ (m.agents.map fun i => m.reported i t) x := by
  unfold monRow reps
  rw [List.getD_eq_getElem?_getD, List.getElem?_map, List.getElem?_map, ht]
  rfl
theorem monRow_len (x : Nat) : (monRow m x).length = m.profiles.length := by
  unfold monRow
  rw [List.length_map, reps_len]
/-- the masks tell who raises what -/
theorem mask_raises (W : WF m) {t u : List Nat} (ht : t ∈ m.profiles) (hu : u ∈ m.profiles) {x : Nat} (hx : x < m.alternativeCount) :
    decide (npJ (m.agents.map fun i => m.reported i t) x &&& npJ (m.agents.map fun i => m.reported i u) x = npJ (m.agents.map fun i => m.reported i t) x) = m.weaklyRaises x t u := by
  have ok : ∀ t ∈ m.profiles, ∀ r ∈ m.agents.map fun i => m.reported i t, r.length = m.alternativeCount ∧ ∀ y ∈ r, y < m.alternativeCount := fun t ht r hr => by
    obtain ⟨i, hi, rfl⟩ := List.mem_map.mp hr
    have hp := rep_pref W (prof_ok W ht) (List.mem_range.mp hi)
    exact ⟨pref_len hp, fun y hy => pref_lt hp hy⟩
  rw [Bool.eq_iff_iff, decide_eq_true_iff]
  unfold npJ
  rw [npJ_sub _ _ 0 0 (by rw [List.length_map, List.length_map]) (ok t ht) (ok u hu)]
  unfold SocialChoice.weaklyRaises
  rw [List.all_eq_true]
  constructor
  · rintro ⟨_, h⟩ i hi
    refine List.all_eq_true.mpr fun y hy => ?_
    have hin := List.mem_range.mp hi
    have hyk := List.mem_range.mp hy
    have p1 := rep_pref W (prof_ok W ht) hin
    have p2 := rep_pref W (prof_ok W hu) hin
    have h2 := h i (m.reported i t) (m.reported i u) (by rw [List.getElem?_map]; unfold SocialChoice.agents; rw [List.getElem?_range hin]; rfl) (by rw [List.getElem?_map]; unfold SocialChoice.agents; rw [List.getElem?_range hin]; rfl) y
    rw [mem_dropIdx (pref_iff.mp p1).2.1 (pref_mem p1 hyk), mem_dropIdx (pref_iff.mp p2).2.1 (pref_mem p2 hyk)] at h2
    unfold Su193.prefers
    by_cases hh : (m.reported i t).idxOf y < (m.reported i t).idxOf x
    · rw [decide_eq_true hh]
      rfl
    · rw [decide_eq_false (h2 hh), Bool.not_false, Bool.or_true]
  · intro h
    refine ⟨rfl, fun i r r2 hr hr2 y hy => ?_⟩
    have hin : i < m.agentCount := by
      have := (List.getElem?_eq_some_iff.mp hr).1
      rw [List.length_map] at this
      unfold SocialChoice.agents at this
      rw [List.length_range] at this
      exact this
    rw [List.getElem?_map] at hr hr2
    unfold SocialChoice.agents at hr hr2
    rw [List.getElem?_range hin] at hr hr2
    cases hr
    cases hr2
    have p1 := rep_pref W (prof_ok W ht) hin
    have p2 := rep_pref W (prof_ok W hu) hin
    have hy2 := List.mem_of_mem_drop hy
    have hyk := pref_lt p1 hy2
    have h3 := List.all_eq_true.mp (h i (List.mem_range.mpr hin)) y (List.mem_range.mpr hyk)
    rw [mem_dropIdx (pref_iff.mp p1).2.1 hy2] at hy
    rw [mem_dropIdx (pref_iff.mp p2).2.1 (pref_mem p2 hyk)]
    unfold Su193.prefers at h3
    rw [decide_eq_false hy, Bool.false_or, Bool.not_eq_true'] at h3
    exact of_decide_eq_false h3
def weakQ (m : SocialChoice) (t u : List Nat) : Bool := m.weaklyRaises (m.outcome t) t u && m.outcome u != m.outcome t
theorem fvOk_is (W : WF m) {i j : Nat} {t u : List Nat} (ht : m.profiles[i]? = some t) (hu : m.profiles[j]? = some u) : fvOk m.outcomes (monRow m (m.outcomes.getD i 0)) i j = weakQ m t u := by
  have o1 : m.outcomes.getD i 0 = m.outcome t := by
    rw [List.getD_eq_getElem?_getD, out_atM W ht]
    rfl
  have o2 : m.outcomes.getD j 0 = m.outcome u := by
    rw [List.getD_eq_getElem?_getD, out_atM W hu]
    rfl
  unfold fvOk weakQ
  rw [o1, o2, monRow_at ht, monRow_at hu, mask_raises W (List.mem_of_getElem? ht) (List.mem_of_getElem? hu) (out_lt W t)]
  congr 1
theorem fv_none (W : WF m) {i : Nat} {t : List Nat} (ht : m.profiles[i]? = some t) (h : fv m.outcomes (monRow m (m.outcomes.getD i 0)) i = none) : m.profiles.find? (weakQ m t) = none := by
  rw [List.find?_eq_none]
  intro u hu
  obtain ⟨j, hj⟩ := List.getElem?_of_mem hu
  unfold fv at h
  rw [List.find?_eq_none] at h
  have h2 := h j (List.mem_range.mpr (by rw [monRow_len]; exact (List.getElem?_eq_some_iff.mp hj).1))
  rw [fvOk_is W ht hj] at h2
  exact h2
theorem fv_some (W : WF m) {i o : Nat} {t u : List Nat} (ht : m.profiles[i]? = some t) (hu : m.profiles[o]? = some u) (h : fv m.outcomes (monRow m (m.outcomes.getD i 0)) i = some o) : m.profiles.find? (weakQ m t) = some u := by
  unfold fv at h
  rw [List.find?_range_eq_some] at h
  obtain ⟨h1, h2, h3⟩ := h
  rw [fvOk_is W ht hu] at h1
  rw [List.find?_eq_some_iff_getElem]
  have hl := (List.getElem?_eq_some_iff.mp hu).1
  refine ⟨h1, o, hl, (List.getElem?_eq_some_iff.mp hu).2, fun j hj => ?_⟩
  have h4 := h3 j hj
  rw [fvOk_is W ht (List.getElem?_eq_getElem (by omega))] at h4
  exact h4
theorem mon_eq (m : SocialChoice) : m.monotonicityViolation = m.profiles.findSome? fun t => (m.profiles.find? (weakQ m t)).map fun r => (t, r) := rfl
theorem findSome_at {α β : Type} {f : α → Option β} {b : β} : ∀ {l : List α} {k : Nat} {x : α}, l[k]? = some x → (∀ k' x', k' < k → l[k']? = some x' → f x' = none) → f x = some b → l.findSome? f = some b
  | [], _, _, h, _, _ => by simp at h
  | y :: l, 0, x, h, _, hb => by
    cases h
    rw [List.findSome?_cons, hb]
  | y :: l, k + 1, x, h, hn, hb => by
    rw [List.findSome?_cons, hn 0 y (Nat.succ_pos k) rfl]
    exact findSome_at (k := k) h (fun k' x' hk' hx' => hn (k' + 1) x' (by omega) hx') hb
theorem mon_some (W : WF m) {i o : Nat} {t u : List Nat} (ht : m.profiles[i]? = some t) (hu : m.profiles[o]? = some u) (h1 : ∀ j, j < i → fv m.outcomes (monRow m (m.outcomes.getD j 0)) j = none) (h2 : fv m.outcomes (monRow m (m.outcomes.getD i 0)) i = some o) : firstMon m = some (t ++ u) := by
  unfold firstMon
  rw [mon_eq, findSome_at (b := (t, u)) ht (fun k' x' hk' hx' => by rw [fv_none W hx' (h1 k' hk')]; rfl) (by rw [fv_some W ht hu h2]; rfl)]
  rfl
theorem mon_none (W : WF m) (h1 : ∀ j, j < m.profiles.length → fv m.outcomes (monRow m (m.outcomes.getD j 0)) j = none) : firstMon m = none := by
  have e : m.monotonicityViolation = none := by
    rw [mon_eq, List.findSome?_eq_none_iff]
    intro t ht
    obtain ⟨j, hj⟩ := List.getElem?_of_mem ht
    rw [fv_none W hj (h1 j (List.getElem?_eq_some_iff.mp hj).1)]
    rfl
  unfold firstMon
  rw [e]
  rfl
theorem fv_lt {outs masks : List Nat} {pl o : Nat} (h : fv outs masks pl = some o) : o < masks.length := by
  unfold fv at h
  exact List.mem_range.mp (List.mem_of_find?_eq_some h)
abbrev s_first_monotonicity_violation : Stmt := topS 22
theorem sc_first_monotonicity_violation : FnScope ["instance", "profiles", "masks", "place", "selected", "other"] ["instance"] (C8.fnScope (topS 22)) := C8.fnScope_by (by decide +kernel)
def sp_first_monotonicity_violation (CI : Addr) : Sp := fun vs H Q _ => ∃ (a D O : Addr) (m : SocialChoice), vs = [.ref a] ∧ InstAt CI H a D O m ∧ WF m ∧ RetO (firstMon m) H Q
theorem cal_first_monotonicity_violation (T : Txt K mg) (c_first_that_violates : C8.Cal P w K mg base 1 "first_that_violates" sp_first_that_violates []) (c_not_preferred_by_alternative : C8.Cal P w K mg base 3 "not_preferred_by_alternative" (sp_not_preferred_by_alternative T.aI) []) (m_all_profiles : C8.Met P w K mg base 2 T.aI "all_profiles" (sp_Instance_all_profiles T.aI) []) {f : Addr} {fd : FuncData} (F : C8.Def K mg "first_monotonicity_violation" s_first_monotonicity_violation f fd) (b : Binds K fd ["instance"] []) : C8.Cal P w K mg base 4 "first_monotonicity_violation" (sp_first_monotonicity_violation T.aI) [] := by
  refine C8.cal0 F b .nil sc_first_monotonicity_violation (fun vs H Q E h => ?_) (fun cdv A outer s H vs Q E hr h => ⟨_, (pss_cons (ps_set (i := 1) sc_first_monotonicity_violation.nd rfl (Or.inl rfl) (C8.pe_mt0 m_all_profiles hr (by decide) (pv 0)))
  (pss_cons (ps_set (i := 2) sc_first_monotonicity_violation.nd rfl (Or.inl rfl) (C8.pe_c c_not_preferred_by_alternative hr (by decide) rfl (pa_cons (pv 0) pa_nil)))
  (pss_cons (ps_for PassesOwn.never rfl (pi_enum (by rfl) T.enumerate (pa_cons (pe_fld (pv 0) rfl) pa_nil)) (pg_tup rfl (pgs_cons (pg_name (i := 3) sc_first_monotonicity_violation.nd rfl (Or.inl rfl)) (pgs_cons (pg_name (i := 4) sc_first_monotonicity_violation.nd rfl (Or.inl rfl)) pgs_nil)))
  (pss_cons (ps_set (i := 5) sc_first_monotonicity_violation.nd rfl (Or.inl rfl) (C8.pe_c c_first_that_violates hr (by decide) rfl (pa_cons (pv 3) (pa_cons (pe_fld (pv 0) rfl) (pa_cons (pe_ix ix_list (pv 2) (pv 4) (fun _ _ => rfl)) pa_nil)))))
  (pss_one (ps_if (pt_cmpR op_notN (pv 5) pe_non (nomark _))
  (pss_one (ps_ret (pe_op op_cat (pe_ix ix_list (pv 1) (pv 3) (fun _ _ => rfl)) (pe_ix ix_list (pv 1) (pv 5) (fun _ _ => rfl)))))
  pss_nil))))
  (pss_one (ps_ret pe_non))))), ?_⟩)
  · obtain ⟨a, D, O, m, rfl, _⟩ := h
    rfl
  · obtain ⟨a, D, O, m, rfl, hI, W, q⟩ := h
    have hpl := profiles_len W
    have hol := W.ol
    refine q_asgP (P := fun v H2 => ∃ c, v = .ref c ∧ LLN H2 c m.profiles) (ep_im T hI (ev_var rfl) ea_nil fun H1 e1 Q1 q1 E1 => ⟨a, D, O, m, rfl, hI.mono e1, sm_doms W, q1⟩) fun v H1 e1 hv => ?_
    obtain ⟨cp, rfl, hcp⟩ := hv
    refine q_asgP (P := fun v H2 => ∃ c, v = .ref c ∧ LLN H2 c (npTab m m.alternativeCount)) (ep_call (ea_cons (ev_var rfl) ea_nil) fun H2 e2 Q2 q2 E2 => ⟨a, D, O, m, rfl, hI.mono (e1.trans e2), W, q2⟩) fun v H2 e2 hv => ?_
    obtain ⟨cm, rfl, hcm⟩ := hv
    obtain ⟨qs, g1, g2, g3⟩ := (LLN.mono e2 hcp).list
    obtain ⟨ms, f1, f2, f3⟩ := hcm.list
    have hI2 := hI.mono (e1.trans e2)
    refine q_forE (xs := nvs m.outcomes) (ea_cons (ev_O T hI2 (ev_var rfl)) ea_nil) (sq_of hI2.outs) (fun i σ' H' => Ex H2 H' ∧ (∀ j, j < i → fv m.outcomes (monRow m (m.outcomes.getD j 0)) j = none) ∧ ∃ x y z : Option V, σ' = [some (.ref a), some (.ref cp), some (.ref cm), x, y, z]) (fun H3 e3 => ⟨e3, fun j h => absurd h (Nat.not_lt_zero _), none, none, none, rfl⟩) (fun i σ' H3 H4 z e => ⟨z.1.trans e, z.2⟩) (fun i σ' H' _ z => sq_of (hI2.mono z.1).outs) ?_ ?_
    · rintro i z σ' H3 hi ⟨e3, hno, x, y, z', rfl⟩
      obtain ⟨o, ho, rfl⟩ := nvs_get hi
      have hil : i < m.outcomes.length := (List.getElem?_eq_some_iff.mp ho).1
      have hod : m.outcomes.getD i 0 = o := by rw [List.getD_eq_getElem?_getD, ho]; rfl
      have hok := W.ob o (List.mem_of_getElem? ho)
      have hrow : (npTab m m.alternativeCount)[o]? = some (monRow m o) := by
        unfold npTab
        rw [List.getElem?_map, List.getElem?_range hok]
        rfl
      have hml : (monRow m o).length = m.profiles.length := by
        unfold monRow
        rw [List.length_map, reps_len]
      have hms : ms[o]? = some (ms[o]'(by rw [f2, npTab, List.length_map, List.length_range]; exact hok)) := List.getElem?_eq_getElem _
      obtain ⟨r, hr1, hr2⟩ := f3 o _ hms
      rw [hrow] at hr1
      have e5 : monRow m o = r := Option.some.inj hr1
      subst e5
      have hI3 := hI2.mono e3
      refine q_asg (v := optV (fv m.outcomes (monRow m o) i)) (ev_call (ea_cons (ev_var rfl) (ea_cons (ev_O T hI3 (ev_var rfl)) (ea_cons (ev_ix (ev_var rfl) (ev_var rfl) (sq_of (e3 cm _ f1)) (rfs_at hms)) ea_nil))) fun H4 e4 Q4 q4 E4 => ⟨O, _, m.outcomes, monRow m o, i, rfl, (hI3.mono e4).outs, (e3.trans e4) _ _ hr2, by omega, hil, by omega, q4⟩) fun H4 e4 => ?_
      cases hf : fv m.outcomes (monRow m o) i with
      | none =>
        refine s_when (b := false) (et_test (ev_is (ev_op (x := .non) (y := .non) (z := .bl false) (ev_var rfl) ev_c fun H5 _ Q5 q5 => ⟨rfl, q5 H5 (Ex.refl H5)⟩) rfl)) (fun hb => by cases hb) (fun _ H5 e5 => ⟨(e3.trans e4).trans e5, fun j hj => ?_, some (nv i), some (nv o), some .non, rfl⟩)
        by_cases hlast : j = i
        · rw [hlast, hod]
          exact hf
        · exact hno j (by omega)
      | some u =>
        have hul := fv_lt hf
        have hpi : m.profiles[i]? = some m.profiles[i] := List.getElem?_eq_getElem (by omega)
        have hpu : m.profiles[u]? = some m.profiles[u] := List.getElem?_eq_getElem (by omega)
        have hq := mon_some W hpi hpu hno (by rw [hod]; exact hf)
        rw [hq] at q
        refine s_when (b := true) (et_test (ev_is (ev_op (x := nv u) (y := .non) (z := .bl true) (ev_var rfl) ev_c fun H5 _ Q5 q5 => ⟨rfl, q5 H5 (Ex.refl H5)⟩) rfl)) (fun _ H5 e5 => ?_) (fun hb => by cases hb)
        have hex := ((e1.trans e2).trans e3).trans (e4.trans e5)
        have hqi : qs[i]? = some qs[i] := List.getElem?_eq_getElem (by omega)
        have hqu : qs[u]? = some qs[u] := List.getElem?_eq_getElem (by omega)
        obtain ⟨t1, ht1, ht2⟩ := g3 i _ hqi
        obtain ⟨u1, hu1, hu2⟩ := g3 u _ hqu
        rw [hpi] at ht1
        rw [hpu] at hu1
        have e6 := Option.some.inj ht1
        have e7 := Option.some.inj hu1
        rw [e6, e7] at q
        have hpt : t1.length = m.agentCount := isProfile_len (prof_ok W (by rw [← e6]; exact List.getElem_mem _))
        have hpu1 : u1.length = m.agentCount := isProfile_len (prof_ok W (by rw [← e7]; exact List.getElem_mem _))
        have hn3 := W.n3
        refine s_retL (xs := nvs (t1 ++ u1)) ?_ fun p H6 hp6 e6' hl6 => q p H6 (fresh_back hex hp6) (hex.trans e6') hl6
        have eL := (e3.trans e4).trans e5
        have r1 := el_cat (σ := [some (.ref a), some (.ref cp), some (.ref cm), some (nv i), some (nv o), some (nv u)]) (H := H5) (ta := tOp (rIxL K) (tVar 1) (tVar 3)) (tb := tOp (rIxL K) (tVar 1) (tVar 5)) (ev_ix (ev_var rfl) (ev_var rfl) (sq_of (eL cp _ g1)) (rfs_at hqi)) (ev_ix (ev_var rfl) (ev_var rfl) (sq_of (eL cp _ g1)) (rfs_at hqu)) (eL _ _ ht2) (eL _ _ hu2) (by rw [List.length_map, List.length_map]; omega)
        rw [nvs, List.map_append]
        exact r1
    · rintro σ' H3 ⟨e3, hno, x, y, z', rfl⟩
      rw [List.length_map] at hno
      have hq := mon_none W (by rw [← hol]; exact hno)
      rw [hq] at q
      exact s_ret (v := .non) ev_c fun H5 e5 => q H5 (((e1.trans e2).trans e3).trans e5)
end
end Tc
namespace Tc
open PySem PySem.Spec PyProof.Rows L2 Evl
open Su193 (SocialChoice)
section
variable {P : Program} {w : World} {K : PySem.W.Frag} {mg : Str → Option Value} {base : Heap} {σ : L2.St} {H H' : Hp} {ta tb te tv tl : TE} {a D O : Addr} {m : SocialChoice} {v : V} {Ds : Ends} {tu tz : TS} {g : TG}
theorem eap_consP {tr : TA} {Pr : V → Hp → Prop} {PA : List V → Hp → Prop} (up : Up Pr) (h : EvP te σ H Pr) (hr : EvAP tr σ H PA) : EvAP (tCons te tr) σ H (fun us H2 => ∃ v vs, us = v :: vs ∧ Pr v H2 ∧ PA vs H2) := fun H1 e Q q =>
  h H1 e _ fun v H2 e2 hP => hr H2 (e.trans e2) _ fun vs H3 e3 hA => q _ H3 (e2.trans e3) ⟨v, vs, rfl, up v H2 H3 e3 hP, hA⟩
theorem nodup_lenG {α : Type} [DecidableEq α] {l l2 : List α} (nd : l.Nodup) (h : ∀ x ∈ l, x ∈ l2) : l.length ≤ l2.length := by
  induction l generalizing l2 with
  | nil => exact Nat.zero_le _
  | cons x l ih =>
    rw [List.nodup_cons] at nd
    have hx := h x (List.mem_cons_self ..)
    have h2 := ih (l2 := l2.erase x) nd.2 fun y hy => (List.mem_erase_of_ne (show y ≠ x from fun e => nd.1 (by rw [← e]; exact hy))).mpr (h y (List.mem_cons_of_mem _ hy))
    rw [List.length_erase_of_mem hx] at h2
    have := List.length_pos_of_mem hx
    rw [List.length_cons]
    omega
/-! ### is_dictator -/
theorem out_at (W : WF m) {k : Nat} {t : List Nat} (ht : m.profiles[k]? = some t) : m.outcomes[k]? = some (m.outcome t) := out_atM W ht
theorem ep_sortedSet {w : World} {l : List Nat} {p : Addr} (ha : Ev ta σ H (.ref p)) (hp : H p = some (.lst (nvs l))) (hz : l.length ≤ 216) (hb : ∀ x ∈ l, x < 4) :
    EvP (tCB (rSortedSet w) (tCons (tCB (rSetLI K w) (tCons ta tNil)) tNil)) σ H fun v H2 => ∃ c sel, v = .ref c ∧ H2 c = some (.lst (nvs sel)) ∧ (∀ x, x ∈ sel ↔ x ∈ l) ∧ sel.length ≤ 4 := fun H1 e Q q => ha H1 e _ fun H2 e2 => by
  refine ⟨p, l.map (fun n : Nat => (n : Int)), rfl, sq_of (by rw [← nvs_int]; exact (e.trans e2) p _ hp), by rw [List.length_map]; unfold scanBound; omega, fun s ks hs nd hk => ?_⟩
  have h4 : ks.length ≤ 4 := by
    have h := nodup_lenG (l2 := (List.range 4).map fun n : Nat => (n : Int)) nd fun x hx => by
      obtain ⟨n, hn, rfl⟩ := List.mem_map.mp ((hk x).mp hx)
      exact List.mem_map.mpr ⟨n, List.mem_range.mpr (hb n hn), rfl⟩
    rw [List.length_map, List.length_range] at h
    exact h
  refine ⟨s, _, ks.length, rfl, upd_same, by omega, fun ns c hlt hm hl hc => ?_⟩
  have hsel : ns = (ns.map Int.toNat).map fun n : Nat => (n : Int) := by
    rw [List.map_map]
    refine (List.map_id ns).symm.trans (List.map_congr_left fun z hz => ?_)
    have h1 := of_decide_eq_true ((hm z).mp hz)
    obtain ⟨n, _, rfl⟩ := List.mem_map.mp h1
    simp
  refine q _ _ ((e2.trans (Ex.new hs)).trans (Ex.new hc)) ⟨c, ns.map Int.toNat, rfl, ?_, fun x => ?_, by rw [List.length_map]; omega⟩
  · rw [nvs_int, ← hsel]
    exact upd_same
  · rw [List.mem_map]
    constructor
    · rintro ⟨z, hz, rfl⟩
      have h1 := of_decide_eq_true ((hm z).mp hz)
      obtain ⟨n, hn, rfl⟩ := List.mem_map.mp h1
      simpa using hn
    · intro hx
      exact ⟨(x : Int), (hm _).mpr (decide_eq_true (List.mem_map.mpr ⟨x, hx, rfl⟩)), by simp⟩
def isDict (m : SocialChoice) (i : Nat) : Bool := m.profiles.all fun t => m.range.all fun x => !(Su193.prefers (m.reported i t) x (m.outcome t))
theorem range_all (W : WF m) {sel : List Nat} (h : ∀ x, x ∈ sel ↔ x ∈ m.outcomes) (p : Nat → Bool) : (m.range.all fun x => !p x) = !((sel.map p).any id) := by
  rw [Bool.eq_iff_iff, List.all_eq_true, Bool.not_eq_true', List.any_eq_false]
  constructor
  · intro h1 b hb
    obtain ⟨x, hx, rfl⟩ := List.mem_map.mp hb
    have hx2 := (h x).mp hx
    have := h1 x (by
      unfold SocialChoice.range
      rw [List.mem_filter]
      exact ⟨List.mem_range.mpr (W.ob x hx2), by simpa using hx2⟩)
    simpa using this
  · intro h1 x hx
    unfold SocialChoice.range at hx
    rw [List.mem_filter] at hx
    have hx2 : x ∈ m.outcomes := by simpa using hx.2
    have := h1 (p x) (List.mem_map.mpr ⟨x, (h x).mpr hx2, rfl⟩)
    simpa using this
theorem reps_at {k : Nat} {t : List Nat} (ht : m.profiles[k]? = some t) : (reps m)[k]? = some (m.agents.map fun i => m.reported i t) := by
  unfold reps
  rw [List.getElem?_map, ht]
  rfl
abbrev s_is_dictator : Stmt := topS 18
theorem sc_is_dictator : FnScope ["instance", "agent", "selectable", "reported", "selected", "other"] ["instance", "agent"] (C8.fnScope (topS 18)) := C8.fnScope_by (by decide +kernel)
def sp_is_dictator (CI : Addr) : Sp := fun vs H Q _ => ∃ (a D O : Addr) (m : SocialChoice) (i : Nat), vs = [.ref a, nv i] ∧ InstAt CI H a D O m ∧ WF m ∧ i < m.agentCount ∧ RetV (.bl (isDict m i)) H Q
theorem cal_is_dictator (T : Txt K mg) (m_reported_rankings : C8.Met P w K mg base 2 T.aI "reported_rankings" (sp_Instance_reported_rankings T.aI) []) (c_prefers : C8.Cal P w K mg base 1 "prefers" sp_prefers []) {f : Addr} {fd : FuncData} (F : C8.Def K mg "is_dictator" s_is_dictator f fd) (b : Binds K fd ["instance", "agent"] []) : C8.Cal P w K mg base 3 "is_dictator" (sp_is_dictator T.aI) [] := by
  refine C8.cal0 F b .nil sc_is_dictator (fun vs H Q E h => ?_) (fun cdv A outer s H vs Q E hr h => ⟨_, (pss_cons (ps_set (i := 2) sc_is_dictator.nd rfl (Or.inl rfl) (pe_callB (cr_sortedSet rfl) (by rfl) T.sorted (by decide +kernel) (pa_cons (pe_callTy (cr_setL rfl) (by rfl) T.set (by decide +kernel) (pa_cons (pe_fld (pv 0) rfl) pa_nil)) pa_nil)))
  (pss_cons (ps_for PassesOwn.never rfl (pi_zip (by rfl) T.zip (pa_cons (C8.pe_mt0 m_reported_rankings hr (by decide) (pv 0)) (pa_cons (pe_fld (pv 0) rfl) pa_nil))) (pg_tup rfl (pgs_cons (pg_name (i := 3) sc_is_dictator.nd rfl (Or.inr rfl)) (pgs_cons (pg_name (i := 4) sc_is_dictator.nd rfl (Or.inr rfl)) pgs_nil)))
  (pss_one (ps_if (pt_val (pe_callB (cr_any rfl) (by rfl) T.any (by decide +kernel) (pa_cons (pe_lc (own := [("other", 5)]) (g := gName 5) (tt := tYes) rfl sc_is_dictator.nd (pi_list (pv 2)) (blkOk_by (own := [("other", 5)]) (N := ["instance", "agent", "selectable", "reported", "selected", "other"]) (sc := C8.fnScope (topS 18)) (by decide +kernel)) (fun _ _ _ _ _ => (pg_name (i := 5) sc_is_dictator.nd rfl (Or.inl rfl))) (fun _ _ _ _ _ => pts_nil) (fun _ _ _ _ _ => (C8.pe_c c_prefers hr (by decide) rfl (pa_cons (pe_ix (ix_listK (K := K) rfl) (pv 3) (pv 1) (fun _ _ => rfl)) (pa_cons (pv 5) (pa_cons (pv 4) pa_nil)))))) pa_nil)))
  (pss_one (ps_ret pe_bl))
  pss_nil)))
  (pss_one (ps_ret pe_bl)))), ?_⟩)
  · obtain ⟨a, D, O, m, i, rfl, _⟩ := h
    rfl
  · obtain ⟨a, D, O, m, i, rfl, hI, W, hi, q⟩ := h
    have hpl := profiles_len W
    have hol := W.ol
    have hk4 := W.k4
    refine q_asgP (ep_sortedSet (ev_O T hI (ev_var rfl)) hI.outs (by omega) (fun x hx => by have := W.ob x hx; omega)) fun v H1 e1 hv => ?_
    obtain ⟨ps, sel, rfl, hs1, hs2, hs3⟩ := hv
    have hI1 := hI.mono e1
    refine q_forZP (eap_cons (P := fun v H2 => ∃ c, v = .ref c ∧ RepAt H2 c (reps m)) (up_ref (Pr := fun c H => RepAt H c (reps m)) fun c H H' e h => RepAt.mono e h) (ep_im T hI1 (ev_var rfl) ea_nil fun H2 e2 Q2 q2 E2 => ⟨a, D, O, m, rfl, hI1.mono e2, W, q2⟩) (ea_cons (ev_O T hI1 (ev_var rfl)) ea_nil)) fun vs H2 e2 hv tas' htas => ?_
    obtain ⟨v, rfl, c, rfl, hc⟩ := hv
    obtain ⟨qs, g1, g2, g3⟩ := hc.list
    have hI2 := hI1.mono e2
    rw [reps_len] at g2
    refine q_forZ (xs := rfs qs) (ys := nvs m.outcomes) htas (sq_of g1) (sq_of hI2.outs) (by rw [List.length_map, List.length_map]; omega) (fun j σ' H' => Ex H2 H' ∧ (∀ j' t, j' < j → m.profiles[j']? = some t → (m.range.all fun x => !(Su193.prefers (m.reported i t) x (m.outcome t))) = true) ∧ ∃ x y z : Option V, σ' = [some (.ref a), some (nv i), some (.ref ps), x, y, z]) (fun H3 e3 => ⟨e3, fun j' t h => absurd h (Nat.not_lt_zero _), none, none, none, rfl⟩) (fun j σ' H3 H4 z e => ⟨z.1.trans e, z.2⟩) (fun j σ' H' _ z => ⟨sq_of (z.1 c _ g1), sq_of (hI2.mono z.1).outs⟩) ?_ ?_
    · rintro j y z σ' H3 hy hz ⟨e3, hyes, x0, y0, z0, rfl⟩
      obtain ⟨d, hd, rfl⟩ := rfs_get hy
      obtain ⟨o, ho, rfl⟩ := nvs_get hz
      have hjl : j < m.profiles.length := by
        have := (List.getElem?_eq_some_iff.mp ho).1
        omega
      have hpt : m.profiles[j]? = some m.profiles[j] := List.getElem?_eq_getElem hjl
      revert hpt
      generalize m.profiles[j] = t
      intro hpt
      have hoo := out_at W hpt
      rw [ho] at hoo
      have e5 : o = m.outcome t := Option.some.inj hoo
      subst e5
      obtain ⟨rs, hrs, hl⟩ := g3 j d hd
      rw [reps_at hpt] at hrs
      have e6 := Option.some.inj hrs
      subst e6
      have hp := prof_ok W (List.mem_of_getElem? hpt)
      have hpref := rep_pref W hp hi
      obtain ⟨as, f1, f2⟩ := (LLN.mono e3 hl).pair
      obtain ⟨aa, haa, har⟩ := pget f2 (i := i) (b := m.reported i t) (by
        rw [List.getElem?_map]
        unfold SocialChoice.agents
        rw [List.getElem?_range hi]
        rfl)
      have hsel : H3 ps = some (.lst (nvs sel)) := (e2.trans e3) ps _ hs1
      refine s_when (b := (sel.map fun x => Su193.prefers (m.reported i t) x (m.outcome t)).any id) (et_B (ev_any ?_)) (fun hb H4 e4 => ?_) (fun hb H4 e4 => ?_)
      · rw [List.map_map]
        refine el_lcDm (K := K) (xs := nvs sel) (ds := sel) (fun x => V.bl (Su193.prefers (m.reported i t) x (m.outcome t))) (ev_var rfl) (sq_of hsel) (by rw [List.length_map]) (by omega) (fun x => rfl) fun j' x' x H4 e4 hx' hx => ?_
        obtain ⟨x2, hx2, rfl⟩ := nvs_get hx'
        rw [hx] at hx2
        have e7 := Option.some.inj hx2
        subst e7
        have hxo := W.ob x ((hs2 x).mp (List.mem_of_getElem? hx))
        exact ev_call (ea_cons (ev_ix (ev_var rfl) (ev_var rfl) (sq_of (e4 d _ f1)) (rfs_at haa)) (ea_cons (ev_var rfl) (ea_cons (ev_var rfl) ea_nil))) fun H5 e5 Q5 q5 E5 => ⟨aa, m.reported i t, x, m.outcome t, rfl, (e4.trans e5) aa _ har, pref_mem hpref hxo, pref_mem hpref (out_lt W t), q5⟩
      · have hno : isDict m i = false := by
          unfold isDict
          rw [List.all_eq_false]
          refine ⟨t, List.mem_of_getElem? hpt, ?_⟩
          rw [range_all W hs2, hb]
          decide
        rw [hno] at q
        exact s_ret ev_c fun H5 e5 => q H5 ((((e1.trans e2).trans e3).trans e4).trans e5)
      · refine ⟨e3.trans e4, fun j' t' hj' ht' => ?_, some (.ref d), some (nv (m.outcome t)), z0, rfl⟩
        by_cases hlast : j' = j
        · subst hlast
          rw [hpt] at ht'
          have e7 := Option.some.inj ht'
          subst e7
          rw [range_all W hs2, hb]
          rfl
        · exact hyes j' t' (by omega) ht'
    · rintro σ' H3 ⟨e3, hyes, x0, y0, z0, rfl⟩
      rw [List.length_map, g2] at hyes
      have hdict : isDict m i = true := by
        unfold isDict
        rw [List.all_eq_true]
        intro t ht
        obtain ⟨j, hj⟩ := List.getElem?_of_mem ht
        exact hyes j t (List.getElem?_eq_some_iff.mp hj).1 hj
      rw [hdict] at q
      exact s_ret ev_c fun H5 e5 => q H5 (((e1.trans e2).trans e3).trans e5)
/-! ### first_inefficiency -/
def firstIneff (m : SocialChoice) : Option (List Nat) := m.inefficientProfile.map fun z => z.2 :: z.1
def allPref (m : SocialChoice) (t : List Nat) (x : Nat) : Bool := m.agents.all fun i => Su193.prefers (m.reported i t) x (m.outcome t)
theorem ineff_eq (m : SocialChoice) : m.inefficientProfile = m.profiles.findSome? fun t => ((List.range m.alternativeCount).find? (allPref m t)).map fun x => (t, x) := rfl
theorem ineff_some {k x : Nat} {t : List Nat} (ht : m.profiles[k]? = some t) (hx : x < m.alternativeCount) (h1 : ∀ k' t', k' < k → m.profiles[k']? = some t' → ∀ y, y < m.alternativeCount → allPref m t' y = false) (h2 : ∀ y, y < x → allPref m t y = false) (h3 : allPref m t x = true) : firstIneff m = some (x :: t) := by
  unfold firstIneff
  rw [ineff_eq, findSome_at (b := (t, x)) ht (fun k' t' hk' ht' => by rw [find_range_none fun y hy => h1 k' t' hk' ht' y hy]; rfl) (by rw [find_range_some hx h3 h2]; rfl)]
  rfl
theorem ineff_none (h1 : ∀ t ∈ m.profiles, ∀ y, y < m.alternativeCount → allPref m t y = false) : firstIneff m = none := by
  have e : m.inefficientProfile = none := by
    rw [ineff_eq, List.findSome?_eq_none_iff]
    intro t ht
    rw [find_range_none fun y hy => h1 t ht y hy]
    rfl
  unfold firstIneff
  rw [e]
  rfl
abbrev s_first_inefficiency : Stmt := topS 23
theorem sc_first_inefficiency : FnScope ["instance", "profile", "reported", "selected", "alternative", "ranking"] ["instance"] (C8.fnScope (topS 23)) := C8.fnScope_by (by decide +kernel)
def sp_first_inefficiency (CI : Addr) : Sp := fun vs H Q _ => ∃ (a D O : Addr) (m : SocialChoice), vs = [.ref a] ∧ InstAt CI H a D O m ∧ WF m ∧ RetO (firstIneff m) H Q
theorem cal_first_inefficiency (T : Txt K mg) (m_reported_rankings : C8.Met P w K mg base 2 T.aI "reported_rankings" (sp_Instance_reported_rankings T.aI) []) (m_all_profiles : C8.Met P w K mg base 2 T.aI "all_profiles" (sp_Instance_all_profiles T.aI) []) (c_prefers : C8.Cal P w K mg base 1 "prefers" sp_prefers []) {f : Addr} {fd : FuncData} (F : C8.Def K mg "first_inefficiency" s_first_inefficiency f fd) (b : Binds K fd ["instance"] []) : C8.Cal P w K mg base 3 "first_inefficiency" (sp_first_inefficiency T.aI) [] := by
  refine C8.cal0 F b .nil sc_first_inefficiency (fun vs H Q E h => ?_) (fun cdv A outer s H vs Q E hr h => ⟨_, (pss_cons (ps_for PassesOwn.never rfl (pi_zip3 (by rfl) T.zip (pa_cons (C8.pe_mt0 m_all_profiles hr (by decide) (pv 0)) (pa_cons (C8.pe_mt0 m_reported_rankings hr (by decide) (pv 0)) (pa_cons (pe_fld (pv 0) rfl) pa_nil)))) (pg_tup rfl (pgs_cons (pg_name (i := 1) sc_first_inefficiency.nd rfl (Or.inl rfl)) (pgs_cons (pg_name (i := 2) sc_first_inefficiency.nd rfl (Or.inl rfl)) (pgs_cons (pg_name (i := 3) sc_first_inefficiency.nd rfl (Or.inr rfl)) pgs_nil))))
  (pss_one (ps_for PassesOwn.never rfl (pi_range1 (by rfl) T.range (pa_cons (pe_fld (pv 0) rfl) pa_nil)) (pg_name (i := 4) sc_first_inefficiency.nd rfl (Or.inr rfl))
  (pss_one (ps_if (pt_val (pe_callB (cr_all rfl) (by rfl) T.all (by decide +kernel) (pa_cons (pe_lc (own := [("ranking", 5)]) (g := gName 5) (tt := tYes) rfl sc_first_inefficiency.nd (pi_list (pv 2)) (blkOk_by (own := [("ranking", 5)]) (N := ["instance", "profile", "reported", "selected", "alternative", "ranking"]) (sc := C8.fnScope (topS 23)) (by decide +kernel)) (fun _ _ _ _ _ => (pg_name (i := 5) sc_first_inefficiency.nd rfl (Or.inl rfl))) (fun _ _ _ _ _ => pts_nil) (fun _ _ _ _ _ => (C8.pe_c c_prefers hr (by decide) rfl (pa_cons (pv 5) (pa_cons (pv 4) (pa_cons (pv 3) pa_nil)))))) pa_nil)))
  (pss_one (ps_ret (pe_op op_cat (pe_lst (pa_cons (pv 4) pa_nil)) (pv 1))))
  pss_nil)))))
  (pss_one (ps_ret pe_non))), ?_⟩)
  · obtain ⟨a, D, O, m, rfl, _⟩ := h
    rfl
  · obtain ⟨a, D, O, m, rfl, hI, W, q⟩ := h
    have hpl := profiles_len W
    have hol := W.ol
    have hn3 := W.n3
    have hk4 := W.k4
    refine q_forZ3P (eap_consP (Pr := fun v H2 => ∃ c, v = .ref c ∧ LLN H2 c m.profiles) (up_ref (Pr := fun c H => LLN H c m.profiles) fun c H H' e h => LLN.mono e h) (ep_im T hI (ev_var rfl) ea_nil fun H2 e2 Q2 q2 E2 => ⟨a, D, O, m, rfl, hI.mono e2, sm_doms W, q2⟩)
      (eap_cons (P := fun v H2 => ∃ c, v = .ref c ∧ RepAt H2 c (reps m)) (up_ref (Pr := fun c H => RepAt H c (reps m)) fun c H H' e h => RepAt.mono e h) (ep_im T hI (ev_var rfl) ea_nil fun H2 e2 Q2 q2 E2 => ⟨a, D, O, m, rfl, hI.mono e2, W, q2⟩) (ea_cons (ev_O T hI (ev_var rfl)) ea_nil))) fun vs H2 e2 hv tas' htas => ?_
    obtain ⟨v, vs', rfl, ⟨cp, rfl, hcp⟩, v2, rfl, cr, rfl, hcr⟩ := hv
    obtain ⟨ps, p1, p2, p3⟩ := hcp.list
    obtain ⟨qs, g1, g2, g3⟩ := hcr.list
    have hI2 := hI.mono e2
    rw [reps_len] at g2
    refine q_forZ3 (xs := rfs ps) (ys := rfs qs) (zs := nvs m.outcomes) htas (sq_of p1) (sq_of g1) (sq_of hI2.outs) (by rw [List.length_map, List.length_map]; omega) (by rw [List.length_map, List.length_map]; omega) (fun j σ' H' => Ex H2 H' ∧ (∀ k' t', k' < j → m.profiles[k']? = some t' → ∀ y, y < m.alternativeCount → allPref m t' y = false) ∧ ∃ x y z u w : Option V, σ' = [some (.ref a), x, y, z, u, w]) (fun H3 e3 => ⟨e3, fun j' t h => absurd h (Nat.not_lt_zero _), none, none, none, none, none, rfl⟩) (fun j σ' H3 H4 z e => ⟨z.1.trans e, z.2⟩) (fun j σ' H' _ z => ⟨sq_of (z.1 cp _ p1), sq_of (z.1 cr _ g1), sq_of (hI2.mono z.1).outs⟩) ?_ ?_
    · rintro j x y z σ' H3 hx hy hz ⟨e3, hno, x0, y0, z0, u0, w0, rfl⟩
      obtain ⟨pr, hpr, rfl⟩ := rfs_get hx
      obtain ⟨d, hd, rfl⟩ := rfs_get hy
      obtain ⟨o, ho, rfl⟩ := nvs_get hz
      obtain ⟨t, hpt, hprt⟩ := p3 j pr hpr
      have hoo := out_at W hpt
      rw [ho] at hoo
      have e5 : o = m.outcome t := Option.some.inj hoo
      subst e5
      obtain ⟨rs, hrs, hl⟩ := g3 j d hd
      rw [reps_at hpt] at hrs
      have e6 := Option.some.inj hrs
      subst e6
      have hp := prof_ok W (List.mem_of_getElem? hpt)
      have htl := isProfile_len hp
      obtain ⟨as, f1, f2, f3⟩ := (LLN.mono e3 hl).list
      rw [List.length_map] at f2
      have hal : m.agents.length = m.agentCount := List.length_range
      refine s_forR1 (n := (m.alternativeCount : Int)) (ea_cons (ev_k T (hI2.mono e3) (ev_var rfl)) ea_nil) (by omega) (fun x σ2 H4 => Ex H3 H4 ∧ (∀ y, y < x → allPref m t y = false) ∧ ∃ u w : Option V, σ2 = [some (.ref a), some (.ref pr), some (.ref d), some (nv (m.outcome t)), u, w]) (fun H4 e4 => ⟨e4, fun y h => absurd h (Nat.not_lt_zero _), u0, w0, rfl⟩) ?_ ?_
      · rintro x σ2 H4 hxl ⟨e4, hno2, u1, w1, rfl⟩
        have hx' : x < m.alternativeCount := by omega
        refine s_when (b := allPref m t x) (et_is (a := ((m.agents.map fun i => Su193.prefers (m.reported i t) x (m.outcome t))).all id) (et_B (ev_all ?_)) (by unfold allPref; rw [List.all_map]; rfl)) (fun hb H5 e5 => ?_) (fun hb H5 e5 => ?_)
        · rw [List.map_map]
          refine el_lcDm (K := K) (xs := rfs as) (ds := m.agents) (fun i => V.bl (Su193.prefers (m.reported i t) x (m.outcome t))) (ev_var rfl) (sq_of (e4 d _ f1)) (by rw [List.length_map, f2]) (by omega) (fun x => rfl) fun j' z' i H6 e6 hz' hi => ?_
          obtain ⟨aa, haa, rfl⟩ := rfs_get hz'
          obtain ⟨r, hr1, hr2⟩ := f3 j' aa haa
          rw [List.getElem?_map, hi] at hr1
          have e7 : m.reported i t = r := Option.some.inj hr1
          subst e7
          have hin : i < m.agentCount := List.mem_range.mp (List.mem_of_getElem? hi)
          have hpref := rep_pref W hp hin
          exact ev_call (ea_cons (ev_var rfl) (ea_cons (ev_var rfl) (ea_cons (ev_var rfl) ea_nil))) fun H7 e7 Q7 q7 E7 => ⟨aa, m.reported i t, x, m.outcome t, rfl, ((e4.trans e6).trans e7) aa _ hr2, pref_mem hpref hx', pref_mem hpref (out_lt W t), q7⟩
        · have hq := ineff_some hpt hx' hno hno2 hb
          rw [hq] at q
          have hex := ((e2.trans e3).trans e4).trans e5
          refine s_retL (xs := nvs (x :: t)) ?_ fun p H6 hp6 e6 hl6 => q p H6 (fresh_back hex hp6) (hex.trans e6) hl6
          have r1 := el_catL (σ := [some (.ref a), some (.ref pr), some (.ref d), some (nv (m.outcome t)), some (nv x), w1]) (H := H5) (ta := tLst (tCons (tVar 4) tNil)) (tb := tVar 1) (xs := [nv x]) (ys := nvs t) (el_lst (ea_cons (ev_var rfl) ea_nil) (by show 1 ≤ 100000; decide)) (ev_var rfl) (((e3.trans e4).trans e5) pr _ hprt) (by rw [List.length_map]; show 1 + t.length ≤ 100000; omega)
          exact r1
        · refine ⟨e4.trans e5, fun y hy => ?_, some (nv x), w1, rfl⟩
          by_cases hlast : y = x
          · rw [hlast]
            exact hb
          · exact hno2 y (by omega)
      · rintro σ2 H4 ⟨e4, hno2, u1, w1, rfl⟩
        rw [Int.toNat_natCast] at hno2
        refine ⟨e3.trans e4, fun k' t' hk' ht' => ?_, some (.ref pr), some (.ref d), some (nv (m.outcome t)), u1, w1, rfl⟩
        by_cases hlast : k' = j
        · subst hlast
          rw [hpt] at ht'
          have e7 := Option.some.inj ht'
          subst e7
          exact hno2
        · exact hno k' t' (by omega) ht'
    · rintro σ' H3 ⟨e3, hno, x0, y0, z0, u0, w0, rfl⟩
      rw [List.length_map, p2] at hno
      have hq := ineff_none (m := m) fun t ht => by
        obtain ⟨k, hk⟩ := List.getElem?_of_mem ht
        exact hno k t (List.getElem?_eq_some_iff.mp hk).1 hk
      rw [hq] at q
      exact s_ret (v := .non) ev_c fun H5 e5 => q H5 ((e2.trans e3).trans e5)
end
end Tc
namespace Tc
open PySem PySem.Spec PyProof.Rows L2 Evl
open Su193 (SocialChoice)
section
variable {P : Program} {w : World} {K : PySem.W.Frag} {mg : Str → Option Value} {base : Heap} {σ : L2.St} {H H' H1 : Hp} {ta tb te tv tl : TE} {a D O : Addr} {m : SocialChoice} {v : V} {Ds : Ends} {tu tz : TS} {g : TG}
/-! ## The operations: one promise for all -/
def exec (m : SocialChoice) (op : Su193.Operation) : SocialChoice × List Int := ((Su193.execute m op).1, (Su193.execute m op).2.value :: Su193Neutral.outs (Su193.execute m op).2.fields)
def CallAt (CC : Addr) (H : Hp) (c : Addr) (p : Nat) (xs row : List Nat) : Prop := ∃ dx ln lr, H c = some (.ins CC dx (cF p ln lr)) ∧ H ln = some (.lst (nvs xs)) ∧ H lr = some (.lst (nvs row))
theorem CallAt.mono {CC c : Addr} {p : Nat} {xs row : List Nat} (e : Ex H H') (h : CallAt CC H c p xs row) : CallAt CC H' c p xs row := by
  obtain ⟨dx, ln, lr, h1, h2, h3⟩ := h
  exact ⟨dx, ln, lr, e _ _ h1, e _ _ h2, e _ _ h3⟩
def Done (CI : Addr) (X : List Addr) (H : Hp) (a D O : Addr) (m : SocialChoice) (op : Su193.Operation) (Q : VK) : Prop :=
  ∀ (H' : Hp) (O' r : Addr), (O' = O ∨ but H [a, D, O] O' = none) → Ex (but H [a, D, O]) H' → InstX CI X H' a D O' (exec m op).1 → but H [a, D, O] r = none → H' r = some (.lst ((exec m op).2.map V.int)) → Q (.ref r) H'
def sp_op (CI CC : Addr) (rd : Bool) (n : Nat) (f : List Nat → List Nat → Su193.Operation) : Sp := fun vs H Q _ => ∃ (X : List Addr) (a D O c : Addr) (m : SocialChoice) (p : Nat) (xs row : List Nat), vs = [.ref a, .ref c] ∧ InstX CI X H a D O m ∧ WF m ∧ CallAt CC (but H (a :: D :: O :: X)) c p xs row ∧
  xs.length = n ∧ row.length ≤ 8 ∧ (rd = true → m.isReady = true) ∧ Done CI X H a D O m (f xs row) Q
theorem but_fresh {L : List Addr} {r : Addr} (h : H r = none) : but H L r = none := by
  unfold but
  split
  · rfl
  · exact h
/-- an answer without a change -/
theorem ro_ret {CI : Addr} {X : List Addr} {op : Su193.Operation} {Q : VK} {xs : List V} {ans : List Int} (hX : InstX CI X H a D O m) (hd : Done CI X H a D O m op Q) (e : Ex H H1) (h : EvL te σ H1 xs) (he : exec m op = (m, ans)) (hx : xs = ans.map V.int) (hD : Ds.rt = Q := by rfl) : tRet te Ds σ H1 :=
  s_retL h fun r H2 hr e2 hl => by
    subst hD
    refine hd H2 O r (.inl rfl) ((but_ex H _).trans (e.trans e2)) ?_ (but_fresh (fresh_back e hr)) ?_
    · rw [he]
      exact hX.mono (e.trans e2)
    · rw [he, hl, hx]
theorem ex1 {op : Su193.Operation} {r : SocialChoice × Su193.Result} (h : Su193.execute m op = r) : exec m op = (r.1, r.2.value :: Su193Neutral.outs r.2.fields) := by
  unfold exec
  rw [h]
theorem el_code {z : Int} : EvL (tLst (tCons (tC (.int z)) tNil)) σ H [V.int z] := el_lst (ea_cons ev_c ea_nil) (by show 1 ≤ 100000; decide)
theorem ready_not (h : m.isReady = true) : ¬ m.isReady = false := by
  rw [h]
  decide
/-- call.numbers[0] -/
theorem ev_num0 (T : Txt K mg) {c dx ln lr : Addr} {p : Nat} {xs : List Nat} {n : Nat} (hn : xs.length = n + 1) (hσ : σ[1]? = some (some (.ref c))) (h1 : H c = some (.ins T.aC dx (cF p ln lr))) (h2 : H ln = some (.lst (nvs xs))) : Ev (tOp (rIxL K) (tFld K (tVar 1) "numbers") (tC (.int 0))) σ H (nv (xs.getD 0 0)) :=
  ev_ix (i := 0) (ev_fld (ev_var hσ) h1 T.cC T.nC_numbers rfl) ev_c (sq_of h2) (nvs_at (getD_at (by omega)))
theorem ev_row (T : Txt K mg) {c dx ln lr : Addr} {p : Nat} (hσ : σ[1]? = some (some (.ref c))) (h1 : H c = some (.ins T.aC dx (cF p ln lr))) : Ev (tFld K (tVar 1) "row") σ H (.ref lr) := ev_fld (ev_var hσ) h1 T.cC T.nC_row rfl
/-- not instance.has_agent(agent), where the agent stands in slot 2 -/
theorem et_noAgent (T : Txt K mg) {X : List Addr} {i : Nat} (hX : InstX T.aI X H a D O m) (h0 : σ[0]? = some (some (.ref a))) (h2 : σ[2]? = some (some (nv i))) : EvT (tNot (tB (tMeth T.aI "has_agent" (sp_Instance_has_agent T.aI) [] C8.E0 (tVar 0) (tCons (tVar 2) tNil)))) σ H (!decide (i < m.agentCount)) :=
  et_not (et_B (ev_im T hX.inst (ev_var h0) (ea_cons (ev_var h2) ea_nil) fun H2 e2 Q2 q2 E2 => ⟨a, D, O, m, i, rfl, hX.inst.mono e2, q2⟩))
theorem no_agent {i : Nat} (h : (!decide (i < m.agentCount)) = true) : m.agentCount ≤ i := by simpa using h
theorem is_agent {i : Nat} (h : (!decide (i < m.agentCount)) = false) : i < m.agentCount := by simpa using h
/-! ### outcome, describe, is_single_peaked -/
abbrev s_outcome : Stmt := topS 50
theorem sc_outcome : FnScope ["instance", "call"] ["instance", "call"] (C8.fnScope (topS 50)) := C8.fnScope_by (by decide +kernel)
def op_outcome (xs row : List Nat) : Su193.Operation := .outcome row
theorem cal_outcome (T : Txt K mg) (m_has_profile : C8.Met P w K mg base 1 T.aI "has_profile" (sp_Instance_has_profile T.aI) []) (m_place_of : C8.Met P w K mg base 1 T.aI "place_of" (sp_Instance_place_of T.aI) []) {f : Addr} {fd : FuncData} (F : C8.Def K mg "outcome" s_outcome f fd) (b : Binds K fd ["instance", "call"] []) : C8.Cal P w K mg base 2 "outcome" (sp_op T.aI T.aC true 0 op_outcome) [] := by
  refine C8.cal0 F b .nil sc_outcome (fun vs H Q E h => ?_) (fun cdv A outer s H vs Q E hr h => ⟨_, (pss_cons (ps_if (pt_not (pt_val (C8.pe_mt m_has_profile hr (by decide) (pv 0) (pa_cons (pe_fld (pv 1) rfl) pa_nil))))
  (pss_one (ps_ret (pe_lst (pa_cons (C8.pe_gc rfl T.g_INVALID) pa_nil))))
  pss_nil)
  (pss_one (ps_ret (pe_lst (pa_cons (pe_ix ix_list (pe_fld (pv 0) rfl) (C8.pe_mt m_place_of hr (by decide) (pv 0) (pa_cons (pe_fld (pv 1) rfl) pa_nil)) (fun _ _ => rfl)) pa_nil))))), ?_⟩)
  · obtain ⟨X, a, D, O, c, m, p, xs, row, rfl, _⟩ := h
    rfl
  · obtain ⟨X, a, D, O, c, m, p, xs, row, rfl, hX, W, hC, hn, h8, hrd, q⟩ := h
    obtain ⟨dx, ln, lr, c1, c2, c3⟩ := hC.mono (but_ex H _)
    have hI := hX.inst
    have hr := hrd rfl
    refine q_when (b := !m.isProfile row) (et_not (et_B (ev_im T hI (ev_var rfl) (ea_cons (ev_row T rfl c1) ea_nil) fun H2 e2 Q2 q2 E2 => ⟨a, D, O, lr, m, row, rfl, hI.mono e2, W, e2 lr _ c3, q2⟩))) (fun hb H1 e1 => ?_) (fun hb H1 e1 => ?_)
    · have hb' : m.isProfile row = false := by simpa using hb
      exact ro_ret hX q e1 el_code (ex1 (r := (m, Su193.error (-22))) ((if_neg (ready_not hr)).trans (if_pos hb'))) rfl
    · have hb' : m.isProfile row = true := by simpa using hb
      have hpl : m.profileIndex row < m.outcomes.length := by
        rw [W.ol]
        exact place_lt W hb'
      refine ro_ret hX q e1 (xs := [nv (m.outcome row)]) (el_lst (ea_cons (ev_ix (i := m.profileIndex row) (ev_O T (hI.mono e1) (ev_var rfl)) (ev_im T (hI.mono e1) (ev_var rfl) (ea_cons (ev_row T rfl (e1 c _ c1)) ea_nil) fun H2 e2 Q2 q2 E2 => ⟨a, D, O, lr, m, row, rfl, (hI.mono e1).mono e2, W, (e1.trans e2) lr _ c3, hb', q2⟩) (sq_of (hI.mono e1).outs) (nvs_at (getD_at hpl))) ea_nil) (by show 1 ≤ 100000; decide)) (ex1 (r := (m, Su193.ok (m.outcome row) [])) ((if_neg (ready_not hr)).trans (if_neg (by rw [hb']; decide)))) rfl
abbrev s_describe : Stmt := topS 60
theorem sc_describe : FnScope ["instance", "call", "domain"] ["instance", "call"] (C8.fnScope (topS 60)) := C8.fnScope_by (by decide +kernel)
def op_describe (xs row : List Nat) : Su193.Operation := .describe
theorem outs_nvs (l : List Nat) : (Su193Neutral.outs l).map V.int = nvs l := by
  unfold Su193Neutral.outs
  rw [List.map_map]
  rfl
theorem cal_describe (T : Txt K mg) {f : Addr} {fd : FuncData} (F : C8.Def K mg "describe" s_describe f fd) (b : Binds K fd ["instance", "call"] []) : C8.Cal P w K mg base 1 "describe" (sp_op T.aI T.aC false 0 op_describe) [] := by
  refine C8.cal0 F b .nil sc_describe (fun vs H Q E h => ?_) (fun cdv A outer s H vs Q E hr h => ⟨_, (pss_one (ps_ret (pe_op op_cat (pe_lst (pa_cons (pe_fld (pv 0) rfl) (pa_cons (pe_fld (pv 0) rfl) pa_nil))) (pe_lc (own := [("domain", 2)]) (g := gName 2) (tt := tYes) rfl sc_describe.nd (pi_list (pe_fld (pv 0) rfl)) (blkOk_by (own := [("domain", 2)]) (N := ["instance", "call", "domain"]) (sc := C8.fnScope (topS 60)) (by decide +kernel)) (fun _ _ _ _ _ => (pg_name (i := 2) sc_describe.nd rfl (Or.inl rfl))) (fun _ _ _ _ _ => pts_nil) (fun _ _ _ _ _ => (pe_callB (call_lenK (K := K) rfl) (by rfl) T.len PySem.boot_len (pa_cons (pv 2) pa_nil))))))), ?_⟩)
  · obtain ⟨X, a, D, O, c, m, p, xs, row, rfl, _⟩ := h
    rfl
  · obtain ⟨X, a, D, O, c, m, p, xs, row, rfl, hX, W, hC, hn, h8, hrd, q⟩ := h
    have hI := hX.inst
    obtain ⟨ds, h1, h2, h3⟩ := hI.list
    have hdl := W.dl
    have hn3 := W.n3
    refine ro_ret hX q (Ex.refl H) (xs := [nv m.agentCount, nv m.alternativeCount] ++ m.domains.map fun d => nv d.length) (el_catLL (el_lst (ea_cons (ev_n T hI (ev_var rfl)) (ea_cons (ev_k T hI (ev_var rfl)) ea_nil)) (by show 2 ≤ 100000; decide)) (el_lcDm (xs := rfs ds) (ds := m.domains) (fun d => nv d.length) (ev_D T hI (ev_var rfl)) (sq_of h1) (by rw [List.length_map, h2]) (by omega) (fun x => rfl) fun i x d H1 e1 hx hd => ?_) (by rw [List.length_map]; show 2 + _ ≤ 100000; omega)) (ex1 (r := (m, Su193.ok m.agentCount (m.alternativeCount :: m.domains.map List.length))) rfl) ?_
    · obtain ⟨dd, hdd, rfl⟩ := rfs_get hx
      obtain ⟨rs, hrs, hl⟩ := h3 i dd hdd
      rw [hrs] at hd
      have e5 := Option.some.inj hd
      subst e5
      obtain ⟨qs, hq1, hq2, _⟩ := (LLN.mono e1 hl).list
      exact ev_is (ev_len (ev_var rfl) (sq_of hq1)) (by show V.int _ = V.int _; rw [List.length_map, hq2])
    · show _ = V.int _ :: (Su193Neutral.outs (m.alternativeCount :: m.domains.map List.length)).map V.int
      rw [outs_nvs, nvs, List.map_cons, List.map_map]
      rfl
abbrev s_is_single_peaked : Stmt := topS 59
theorem sc_is_single_peaked : FnScope ["instance", "call", "agent", "domain", "ranking"] ["instance", "call"] (C8.fnScope (topS 59)) := C8.fnScope_by (by decide +kernel)
def op_is_single_peaked (xs row : List Nat) : Su193.Operation := .isSinglePeaked (xs.getD 0 0)
theorem cal_is_single_peaked (T : Txt K mg) (c_has_single_peak : C8.Cal P w K mg base 2 "has_single_peak" sp_has_single_peak []) (m_has_agent : C8.Met P w K mg base 1 T.aI "has_agent" (sp_Instance_has_agent T.aI) []) {f : Addr} {fd : FuncData} (F : C8.Def K mg "is_single_peaked" s_is_single_peaked f fd) (b : Binds K fd ["instance", "call"] []) : C8.Cal P w K mg base 3 "is_single_peaked" (sp_op T.aI T.aC false 1 op_is_single_peaked) [] := by
  refine C8.cal0 F b .nil sc_is_single_peaked (fun vs H Q E h => ?_) (fun cdv A outer s H vs Q E hr h => ⟨_, (pss_cons (ps_set (i := 2) sc_is_single_peaked.nd rfl (Or.inl rfl) (pe_ix ix_list (pe_fld (pv 1) rfl) pe_int (fun _ _ => rfl)))
  (pss_cons (ps_if (pt_not (pt_val (C8.pe_mt m_has_agent hr (by decide) (pv 0) (pa_cons (pv 2) pa_nil))))
  (pss_one (ps_ret (pe_lst (pa_cons (C8.pe_gc rfl T.g_NO_AGENT) pa_nil))))
  pss_nil)
  (pss_cons (ps_set (i := 3) sc_is_single_peaked.nd rfl (Or.inl rfl) (pe_ix ix_list (pe_fld (pv 0) rfl) (pv 2) (fun _ _ => rfl)))
  (pss_cons (ps_if (pt_val (pe_callB (cr_all rfl) (by rfl) T.all (by decide +kernel) (pa_cons (pe_lc (own := [("ranking", 4)]) (g := gName 4) (tt := tYes) rfl sc_is_single_peaked.nd (pi_list (pv 3)) (blkOk_by (own := [("ranking", 4)]) (N := ["instance", "call", "agent", "domain", "ranking"]) (sc := C8.fnScope (topS 59)) (by decide +kernel)) (fun _ _ _ _ _ => (pg_name (i := 4) sc_is_single_peaked.nd rfl (Or.inl rfl))) (fun _ _ _ _ _ => pts_nil) (fun _ _ _ _ _ => (C8.pe_c c_has_single_peak hr (by decide) rfl (pa_cons (pv 4) pa_nil)))) pa_nil)))
  (pss_one (ps_ret (pe_lst (pa_cons pe_int (pa_cons (pe_callB call_len_seq (by rfl) T.len PySem.boot_len (pa_cons (pv 3) pa_nil)) pa_nil)))))
  pss_nil)
  (pss_one (ps_ret (pe_lst (pa_cons pe_int (pa_cons (pe_callB call_len_seq (by rfl) T.len PySem.boot_len (pa_cons (pv 3) pa_nil)) pa_nil))))))))), ?_⟩)
  · obtain ⟨X, a, D, O, c, m, p, xs, row, rfl, _⟩ := h
    rfl
  · obtain ⟨X, a, D, O, c, m, p, xs, row, rfl, hX, W, hC, hn, h8, hrd, q⟩ := h
    obtain ⟨dx, ln, lr, c1, c2, c3⟩ := hC.mono (but_ex H _)
    have hI := hX.inst
    have hk4 := W.k4
    refine q_asg (v := nv (xs.getD 0 0)) (ev_num0 T hn rfl c1 c2) fun H1 e1 => ?_
    unfold op_is_single_peaked at q
    revert q
    generalize xs.getD 0 0 = i
    intro q
    have hX1 := hX.mono e1
    refine q_when (et_noAgent T hX1 rfl rfl) (fun hb H2 e2 => ?_) (fun hb H2 e2 => ?_)
    · exact ro_ret hX q (e1.trans e2) el_code (ex1 (r := (m, Su193.error (-2))) (if_pos (no_agent hb))) rfl
    · have hi := is_agent hb
      obtain ⟨ds, h1, h2⟩ := (hX1.inst.mono e2).doms
      obtain ⟨d, hd, hl⟩ := pget h2 (dom_at W hi)
      have hl2 := LLN.mono (but_ex H2 _) hl
      obtain ⟨qs, g1, g2, g3⟩ := hl2.list
      have hd6 : (m.domain i).length ≤ 6 := W.d6 _ (List.mem_of_getElem? (dom_at W hi))
      refine q_asg (v := .ref d) (ev_ix (ev_D T (hX1.inst.mono e2) (ev_var rfl)) (ev_var rfl) (sq_of h1) (rfs_at hd)) fun H3 e3 => ?_
      have hexe : exec m (.isSinglePeaked i) = (m, [((Su193.boolToNat ((m.domain i).all (Su193.isSinglePeaked m.alternativeCount)) : Nat) : Int), ((m.domain i).length : Int)]) := ex1 (r := (m, Su193.ok _ [(m.domain i).length])) (if_neg (by omega))
      have hlen : ∀ {H4 : Hp} {σ' : L2.St}, Ex H3 H4 → σ'[3]? = some (some (.ref d)) → Ev (tCB (rLenS K) (tCons (tVar 3) tNil)) σ' H4 (nv (m.domain i).length) := fun e4 hσ => ev_is (ev_len (ev_var hσ) (sq_of ((e3.trans e4) d _ g1))) (by show V.int _ = V.int _; rw [List.length_map, g2])
      refine q_when (b := (m.domain i).all (Su193.isSinglePeaked m.alternativeCount)) (et_is (a := ((m.domain i).map (Su193.isSinglePeaked m.alternativeCount)).all id) (et_B (ev_all ?_)) (by rw [List.all_map]; rfl)) (fun hb2 H4 e4 => ?_) (fun hb2 H4 e4 => ?_)
      · rw [List.map_map]
        refine el_lcDm (K := K) (xs := rfs qs) (ds := m.domain i) (fun r => V.bl (Su193.isSinglePeaked m.alternativeCount r)) (ev_var rfl) (sq_of (e3 d _ g1)) (by rw [List.length_map, g2]) (by omega) (fun x => rfl) fun j x r H4 e4 hx hr => ?_
        obtain ⟨qq, hqq, rfl⟩ := rfs_get hx
        obtain ⟨r', hr', hl'⟩ := g3 j qq hqq
        rw [hr] at hr'
        have e5 := Option.some.inj hr'
        subst e5
        exact ev_call (ea_cons (ev_var rfl) ea_nil) fun H5 e5 Q5 q5 E5 => ⟨qq, r, m.alternativeCount, rfl, ((e3.trans e4).trans e5) qq _ hl', W.pr _ (List.mem_of_getElem? (dom_at W hi)) r (List.mem_of_getElem? hr), by omega, q5⟩
      · rw [hb2] at hexe
        exact ro_ret hX q (((e1.trans e2).trans e3).trans e4) (xs := [nv 1, nv (m.domain i).length]) (el_lst (ea_cons ev_c (ea_cons (hlen e4 rfl) ea_nil)) (by show 2 ≤ 100000; decide)) hexe rfl
      · rw [hb2] at hexe
        exact ro_ret hX q (((e1.trans e2).trans e3).trans e4) (xs := [nv 0, nv (m.domain i).length]) (el_lst (ea_cons ev_c (ea_cons (hlen e4 rfl) ea_nil)) (by show 2 ≤ 100000; decide)) hexe rfl
end
end Tc
namespace Tc
open PySem PySem.Spec PyProof.Rows L2 Evl
open Su193 (SocialChoice)
section
variable {P : Program} {w : World} {K : PySem.W.Frag} {mg : Str → Option Value} {base : Heap} {σ : L2.St} {H H' H1 : Hp} {ta tb te tv tl : TE} {a D O : Addr} {m : SocialChoice} {v : V} {Ds : Ends} {tu tz : TS} {g : TG} {tas : TA}
theorem opt_lt (W : WF m) {i : Nat} {t : List Nat} : ∀ x ∈ m.options i t, x < m.alternativeCount := fun x hx => by
  unfold SocialChoice.options at hx
  obtain ⟨k, _, rfl⟩ := List.mem_map.mp hx
  exact out_lt W _
/-! ### option_set -/
abbrev s_option_set : Stmt := topS 51
theorem sc_option_set : FnScope ["instance", "call", "agent"] ["instance", "call"] (C8.fnScope (topS 51)) := C8.fnScope_by (by decide +kernel)
def op_option_set (xs row : List Nat) : Su193.Operation := .optionSet (xs.getD 0 0) row
theorem cal_option_set (T : Txt K mg) (c_mask_of : C8.Cal P w K mg base 1 "mask_of" sp_mask_of []) (m_options : C8.Met P w K mg base 2 T.aI "options" (sp_Instance_options T.aI) []) (m_has_profile : C8.Met P w K mg base 1 T.aI "has_profile" (sp_Instance_has_profile T.aI) []) (m_has_agent : C8.Met P w K mg base 1 T.aI "has_agent" (sp_Instance_has_agent T.aI) []) {f : Addr} {fd : FuncData} (F : C8.Def K mg "option_set" s_option_set f fd) (b : Binds K fd ["instance", "call"] []) : C8.Cal P w K mg base 3 "option_set" (sp_op T.aI T.aC true 1 op_option_set) [] := by
  refine C8.cal0 F b .nil sc_option_set (fun vs H Q E h => ?_) (fun cdv A outer s H vs Q E hr h => ⟨_, (pss_cons (ps_set (i := 2) sc_option_set.nd rfl (Or.inl rfl) (pe_ix ix_list (pe_fld (pv 1) rfl) pe_int (fun _ _ => rfl)))
  (pss_cons (ps_if (pt_not (pt_val (C8.pe_mt m_has_agent hr (by decide) (pv 0) (pa_cons (pv 2) pa_nil))))
  (pss_one (ps_ret (pe_lst (pa_cons (C8.pe_gc rfl T.g_NO_AGENT) pa_nil))))
  pss_nil)
  (pss_cons (ps_if (pt_not (pt_val (C8.pe_mt m_has_profile hr (by decide) (pv 0) (pa_cons (pe_fld (pv 1) rfl) pa_nil))))
  (pss_one (ps_ret (pe_lst (pa_cons (C8.pe_gc rfl T.g_INVALID) pa_nil))))
  pss_nil)
  (pss_one (ps_ret (pe_lst (pa_cons (C8.pe_c c_mask_of hr (by decide) rfl (pa_cons (C8.pe_mt m_options hr (by decide) (pv 0) (pa_cons (pv 2) (pa_cons (pe_fld (pv 1) rfl) pa_nil))) pa_nil)) pa_nil))))))), ?_⟩)
  · obtain ⟨X, a, D, O, c, m, p, xs, row, rfl, _⟩ := h
    rfl
  · obtain ⟨X, a, D, O, c, m, p, xs, row, rfl, hX, W, hC, hn, h8, hrd, q⟩ := h
    obtain ⟨dx, ln, lr, c1, c2, c3⟩ := hC.mono (but_ex H _)
    have hr := hrd rfl
    have hk4 := W.k4
    refine q_asg (v := nv (xs.getD 0 0)) (ev_num0 T hn rfl c1 c2) fun H1 e1 => ?_
    unfold op_option_set at q
    revert q
    generalize xs.getD 0 0 = i
    intro q
    have hX1 := hX.mono e1
    have hI1 := hX1.inst
    refine q_when (et_noAgent T hX1 rfl rfl) (fun hb H2 e2 => ?_) (fun hb H2 e2 => ?_)
    · exact ro_ret hX q (e1.trans e2) el_code (ex1 (r := (m, Su193.error (-2))) ((if_neg (ready_not hr)).trans (if_pos (no_agent hb)))) rfl
    · have hi := is_agent hb
      refine q_when (b := !m.isProfile row) (et_not (et_B (ev_im T (hI1.mono e2) (ev_var rfl) (ea_cons (ev_row T rfl ((e1.trans e2) c _ c1)) ea_nil) fun H3 e3 Q3 q3 E3 => ⟨a, D, O, lr, m, row, rfl, (hI1.mono e2).mono e3, W, ((e1.trans e2).trans e3) lr _ c3, q3⟩))) (fun hb H3 e3 => ?_) (fun hb H3 e3 => ?_)
      · have hb' : m.isProfile row = false := by simpa using hb
        exact ro_ret hX q ((e1.trans e2).trans e3) el_code (ex1 (r := (m, Su193.error (-22))) ((if_neg (ready_not hr)).trans ((if_neg (by omega)).trans (if_pos hb')))) rfl
      · have hb' : m.isProfile row = true := by simpa using hb
        have hex := (e1.trans e2).trans e3
        refine ro_ret hX q hex (xs := [nv (Su193.maskOf (m.options i row))]) (el_lst (ea_cons ?_ ea_nil) (by show 1 ≤ 100000; decide)) (ex1 (r := (m, Su193.ok (Su193.maskOf (m.options i row)) [])) ((if_neg (ready_not hr)).trans ((if_neg (by omega)).trans (if_neg (by rw [hb']; decide))))) rfl
        rw [← maskL_of]
        refine ev_callP (eap_L (xs := nvs (m.options i row)) (el_im T (hX.inst.mono hex) (ev_var rfl) (ea_cons (ev_var rfl) (ea_cons (ev_row T rfl (hex c _ c1)) ea_nil)) fun H4 e4 Q4 q4 E4 => ⟨a, D, O, lr, m, i, row, rfl, (hX.inst.mono hex).mono e4, W, (hex.trans e4) lr _ c3, hb', hi, q4⟩) ea_nil) fun vs H4 e4 hv H5 e5 Q5 q5 E5 => ?_
        obtain ⟨z, rfl, hz⟩ := hv
        exact ⟨z, _, rfl, e5 z _ hz, fun x hx => by have := opt_lt W x hx; omega, q5⟩
/-! ### values that may be None -/
def EvOp (te : TE) (σ : L2.St) (H : Hp) (o : Option (List Nat)) : Prop := ∀ H1, Ex H H1 → ∀ Q : VK, RetO o H1 Q → te σ H1 Q
theorem RetO.back {o : Option (List Nat)} {Q : VK} (e : Ex H H') (h : RetO o H Q) : RetO o H' Q := by
  cases o with
  | none => exact fun H2 e2 => h H2 (e.trans e2)
  | some l => exact fun p H2 hp e2 hl => h p H2 (fresh_back e hp) (e.trans e2) hl
theorem eop_call {sp : Sp} {vs : List V} {E : XK} {o : Option (List Nat)} (h : EvA tas σ H vs) (hs : ∀ H1, Ex H H1 → ∀ Q : VK, RetO o H1 Q → ∀ E : XK, sp (vs ++ []) H1 Q E) : EvOp (tCall sp [] E tas) σ H o := fun H1 e Q q =>
  h H1 e _ fun H2 e2 => hs H2 (e.trans e2) Q (q.back e2) E
theorem q_asgO {i : Nat} {o : Option (List Nat)} (h : EvOp te σ H o) (k0 : o = none → ∀ H1, Ex H H1 → tz Ds (σ.set i (some .non)) H1) (k1 : ∀ l, o = some l → ∀ p H1, H p = none → Ex H H1 → H1 p = some (.lst (nvs l)) → tz Ds (σ.set i (some (.ref p))) H1) : tSeq (tAsg te (gName i)) tz Ds σ H := by
  refine h H (Ex.refl H) _ ?_
  cases o with
  | none => exact fun H1 e1 => k0 rfl H1 e1
  | some l => exact fun p H1 hp e1 hl => k1 l rfl p H1 hp e1 hl
abbrev rNon : R2 := fun x y H Q => y = .non ∧ Q (.bl (decide (x = .non))) H
theorem et_isNon {i : Nat} (h : σ[i]? = some (some v)) : EvT (tTest (tOp rNon (tVar i) (tC .non))) σ H (decide (v = .non)) := et_test (ev_op (ev_var h) ev_c fun H5 _ Q5 q5 => ⟨rfl, q5 H5 (Ex.refl H5)⟩)
/-! ### find_manipulation, count_manipulations -/
abbrev s_find_manipulation : Stmt := topS 52
theorem sc_find_manipulation : FnScope ["instance", "call", "found"] ["instance", "call"] (C8.fnScope (topS 52)) := C8.fnScope_by (by decide +kernel)
def op_find_manipulation (xs row : List Nat) : Su193.Operation := .findManipulation
theorem cal_find_manipulation (T : Txt K mg) (c_first_manipulation : C8.Cal P w K mg base 4 "first_manipulation" (sp_first_manipulation T.aI) []) {f : Addr} {fd : FuncData} (F : C8.Def K mg "find_manipulation" s_find_manipulation f fd) (b : Binds K fd ["instance", "call"] []) : C8.Cal P w K mg base 5 "find_manipulation" (sp_op T.aI T.aC true 0 op_find_manipulation) [] := by
  refine C8.cal0 F b .nil sc_find_manipulation (fun vs H Q E h => ?_) (fun cdv A outer s H vs Q E hr h => ⟨_, (pss_cons (ps_set (i := 2) sc_find_manipulation.nd rfl (Or.inl rfl) (C8.pe_c c_first_manipulation hr (by decide) rfl (pa_cons (pv 0) pa_nil)))
  (pss_cons (ps_if (pt_cmpR op_isN (pv 2) pe_non (nomark _))
  (pss_one (ps_ret (pe_lst (pa_cons (C8.pe_gc rfl T.g_NO_MANIPULATION) pa_nil))))
  pss_nil)
  (pss_one (ps_ret (pv 2))))), ?_⟩)
  · obtain ⟨X, a, D, O, c, m, p, xs, row, rfl, _⟩ := h
    rfl
  · obtain ⟨X, a, D, O, c, m, p, xs, row, rfl, hX, W, hC, hn, h8, hrd, q⟩ := h
    have hr := hrd rfl
    have hI := hX.inst
    have hexe : exec m .findManipulation = (m, match firstMan m with | none => [-33] | some l => l.map fun n : Nat => (n : Int)) := by
      unfold firstMan
      cases hm : m.manipulations with
      | nil => exact ex1 (r := (m, Su193.error (-33))) ((if_neg (ready_not hr)).trans (by rw [hm]))
      | cons z zs => exact ex1 (r := (m, Su193.ok z.2.1 (z.2.2 :: z.1))) ((if_neg (ready_not hr)).trans (by rw [hm]))
    refine q_asgO (eop_call (o := firstMan m) (ea_cons (ev_var rfl) ea_nil) fun H1 e1 Q1 q1 E1 => ⟨a, D, O, m, rfl, hI.mono e1, W, q1⟩) (fun ho H1 e1 => ?_) (fun l ho pl H1 hpl e1 hl => ?_)
    · rw [ho] at hexe
      exact q_when (et_isNon rfl) (fun _ H2 e2 => ro_ret hX q (e1.trans e2) el_code hexe rfl) (fun hb => by cases hb)
    · rw [ho] at hexe
      refine q_when (et_isNon rfl) (fun hb => by cases hb) (fun _ H2 e2 => ?_)
      refine s_ret (ev_var rfl) fun H3 e3 => q H3 O pl (.inl rfl) ((but_ex H _).trans ((e1.trans e2).trans e3)) ?_ (but_fresh hpl) ?_
      · show InstX _ _ _ _ _ _ (exec m .findManipulation).1
        rw [hexe]
        exact hX.mono ((e1.trans e2).trans e3)
      · show _ = some (HO.lst ((exec m .findManipulation).2.map V.int))
        rw [hexe]
        show _ = some (HO.lst ((l.map fun n : Nat => (n : Int)).map V.int))
        rw [← nvs_int]
        exact (e2.trans e3) pl _ hl
abbrev s_count_manipulations : Stmt := topS 53
theorem sc_count_manipulations : FnScope ["instance", "call", "agent"] ["instance", "call"] (C8.fnScope (topS 53)) := C8.fnScope_by (by decide +kernel)
def op_count_manipulations (xs row : List Nat) : Su193.Operation := .countManipulations (xs.getD 0 0)
theorem cal_count_manipulations (T : Txt K mg) (c_manipulation_count : C8.Cal P w K mg base 4 "manipulation_count" (sp_manipulation_count T.aI) []) (m_has_agent : C8.Met P w K mg base 1 T.aI "has_agent" (sp_Instance_has_agent T.aI) []) {f : Addr} {fd : FuncData} (F : C8.Def K mg "count_manipulations" s_count_manipulations f fd) (b : Binds K fd ["instance", "call"] []) : C8.Cal P w K mg base 5 "count_manipulations" (sp_op T.aI T.aC true 1 op_count_manipulations) [] := by
  refine C8.cal0 F b .nil sc_count_manipulations (fun vs H Q E h => ?_) (fun cdv A outer s H vs Q E hr h => ⟨_, (pss_cons (ps_set (i := 2) sc_count_manipulations.nd rfl (Or.inl rfl) (pe_ix ix_list (pe_fld (pv 1) rfl) pe_int (fun _ _ => rfl)))
  (pss_cons (ps_if (pt_not (pt_val (C8.pe_mt m_has_agent hr (by decide) (pv 0) (pa_cons (pv 2) pa_nil))))
  (pss_one (ps_ret (pe_lst (pa_cons (C8.pe_gc rfl T.g_NO_AGENT) pa_nil))))
  pss_nil)
  (pss_one (ps_ret (pe_lst (pa_cons (C8.pe_c c_manipulation_count hr (by decide) rfl (pa_cons (pv 0) (pa_cons (pv 2) pa_nil))) (pa_cons (pe_callB call_len_seq (by rfl) T.len PySem.boot_len (pa_cons (pe_fld (pv 0) rfl) pa_nil)) pa_nil))))))), ?_⟩)
  · obtain ⟨X, a, D, O, c, m, p, xs, row, rfl, _⟩ := h
    rfl
  · obtain ⟨X, a, D, O, c, m, p, xs, row, rfl, hX, W, hC, hn, h8, hrd, q⟩ := h
    obtain ⟨dx, ln, lr, c1, c2, c3⟩ := hC.mono (but_ex H _)
    have hr := hrd rfl
    refine q_asg (v := nv (xs.getD 0 0)) (ev_num0 T hn rfl c1 c2) fun H1 e1 => ?_
    unfold op_count_manipulations at q
    revert q
    generalize xs.getD 0 0 = i
    intro q
    have hX1 := hX.mono e1
    refine q_when (et_noAgent T hX1 rfl rfl) (fun hb H2 e2 => ?_) (fun hb H2 e2 => ?_)
    · exact ro_ret hX q (e1.trans e2) el_code (ex1 (r := (m, Su193.error (-2))) ((if_neg (ready_not hr)).trans (if_pos (no_agent hb)))) rfl
    · have hi := is_agent hb
      have hI2 := hX1.inst.mono e2
      refine ro_ret hX q (e1.trans e2) (xs := [nv (m.manipulations.filter fun z : List Nat × Nat × Nat => z.2.1 == i).length, nv m.profiles.length]) (el_lst (ea_cons (ev_call (ea_cons (ev_var rfl) (ea_cons (ev_var rfl) ea_nil)) fun H3 e3 Q3 q3 E3 => ⟨a, D, O, m, i, rfl, hI2.mono e3, W, hi, q3⟩) (ea_cons (ev_is (ev_len (ev_O T hI2 (ev_var rfl)) (sq_of hI2.outs)) (by show V.int _ = V.int _; rw [List.length_map, W.ol])) ea_nil)) (by show 2 ≤ 100000; decide)) (ex1 (r := (m, Su193.ok (m.manipulations.filter fun z => z.2.1 == i).length [m.profiles.length])) ((if_neg (ready_not hr)).trans (if_neg (by omega)))) rfl
/-! ### outcome_range -/
theorem range_mem (W : WF m) (x : Nat) : x ∈ m.outcomes ↔ x ∈ m.range := by
  unfold SocialChoice.range SocialChoice.alternatives
  rw [List.mem_filter, List.mem_range, List.contains_iff_mem]
  exact ⟨fun h => ⟨W.ob x h, h⟩, fun h => h.2⟩
theorem range_mask (W : WF m) : maskL m.outcomes = Su193.maskOf m.range := by
  rw [← maskL_of]
  exact maskL_same (range_mem W)
theorem range_len (W : WF m) {ks : List Int} (nd : ks.Nodup) (hk : ∀ k, k ∈ ks ↔ k ∈ m.outcomes.map fun n : Nat => (n : Int)) : ks.length = m.range.length := by
  have nr : m.range.Nodup := List.Pairwise.filter _ List.nodup_range
  have nr2 : (m.range.map fun n : Nat => (n : Int)).Nodup := List.Pairwise.map _ (fun a b h z => h (Int.ofNat.inj z)) nr
  have mm : ∀ k, k ∈ ks ↔ k ∈ m.range.map fun n : Nat => (n : Int) := fun k => by
    rw [hk k, List.mem_map, List.mem_map]
    constructor
    · rintro ⟨n, hn, rfl⟩
      exact ⟨n, (range_mem W n).mp hn, rfl⟩
    · rintro ⟨n, hn, rfl⟩
      exact ⟨n, (range_mem W n).mpr hn, rfl⟩
  have a1 := nodup_lenG nd fun x hx => (mm x).mp hx
  have a2 := nodup_lenG nr2 fun x hx => (mm x).mpr hx
  rw [List.length_map] at a1 a2
  omega
abbrev s_outcome_range : Stmt := topS 54
theorem sc_outcome_range : FnScope ["instance", "call"] ["instance", "call"] (C8.fnScope (topS 54)) := C8.fnScope_by (by decide +kernel)
def op_outcome_range (xs row : List Nat) : Su193.Operation := .range
theorem ev_lenSet {w : World} {l : List Nat} {p : Addr} {n : Nat} (ha : Ev ta σ H (.ref p)) (hp : H p = some (.lst (nvs l))) (hz : l.length ≤ 216) (hn : ∀ ks : List Int, ks.Nodup → (∀ k, k ∈ ks ↔ k ∈ l.map fun n : Nat => (n : Int)) → ks.length = n) :
    Ev (tCB (rLenSet w) (tCons (tCB (rSetLI K w) (tCons ta tNil)) tNil)) σ H (nv n) := fun H1 e Q q => ha H1 e _ fun H2 e2 => by
  refine ⟨p, l.map (fun n : Nat => (n : Int)), rfl, sq_of (by rw [← nvs_int]; exact (e.trans e2) p _ hp), by rw [List.length_map]; unfold scanBound; omega, fun s ks hs nd hk => ?_⟩
  refine ⟨s, _, ks.length, rfl, upd_same, ?_⟩
  rw [hn ks nd hk]
  exact q _ (e2.trans (Ex.new hs))
theorem cal_outcome_range (T : Txt K mg) (c_mask_of : C8.Cal P w K mg base 1 "mask_of" sp_mask_of []) {f : Addr} {fd : FuncData} (F : C8.Def K mg "outcome_range" s_outcome_range f fd) (b : Binds K fd ["instance", "call"] []) : C8.Cal P w K mg base 2 "outcome_range" (sp_op T.aI T.aC true 0 op_outcome_range) [] := by
  refine C8.cal0 F b .nil sc_outcome_range (fun vs H Q E h => ?_) (fun cdv A outer s H vs Q E hr h => ⟨_, (pss_one (ps_ret (pe_lst (pa_cons (C8.pe_c c_mask_of hr (by decide) rfl (pa_cons (pe_fld (pv 0) rfl) pa_nil)) (pa_cons (pe_callB call_lenSet (by rfl) T.len PySem.boot_len (pa_cons (pe_callTy (cr_setL rfl) (by rfl) T.set (by decide +kernel) (pa_cons (pe_fld (pv 0) rfl) pa_nil)) pa_nil)) pa_nil))))), ?_⟩)
  · obtain ⟨X, a, D, O, c, m, p, xs, row, rfl, _⟩ := h
    rfl
  · obtain ⟨X, a, D, O, c, m, p, xs, row, rfl, hX, W, hC, hn, h8, hrd, q⟩ := h
    have hr := hrd rfl
    have hI := hX.inst
    have hpl := profiles_len W
    have hk4 := W.k4
    refine ro_ret hX q (Ex.refl H) (xs := [nv (Su193.maskOf m.range), nv m.range.length]) (el_lst (ea_cons ?_ (ea_cons (ev_lenSet (ev_O T hI (ev_var rfl)) hI.outs (by rw [W.ol]; exact hpl) fun ks nd hk => range_len W nd hk) ea_nil)) (by show 2 ≤ 100000; decide)) (ex1 (r := (m, Su193.ok (Su193.maskOf m.range) [m.range.length])) (if_neg (ready_not hr))) rfl
    rw [← range_mask W]
    exact ev_call (ea_cons (ev_O T hI (ev_var rfl)) ea_nil) fun H3 e3 Q3 q3 E3 => ⟨O, m.outcomes, rfl, (hI.mono e3).outs, fun x hx => by have := W.ob x hx; omega, q3⟩
/-! ### dictators -/
abbrev s_dictators : Stmt := topS 55
theorem sc_dictators : FnScope ["instance", "call", "agent", "found"] ["instance", "call"] (C8.fnScope (topS 55)) := C8.fnScope_by (by decide +kernel)
def op_dictators (xs row : List Nat) : Su193.Operation := .dictators
theorem cal_dictators (T : Txt K mg) (c_is_dictator : C8.Cal P w K mg base 3 "is_dictator" (sp_is_dictator T.aI) []) {f : Addr} {fd : FuncData} (F : C8.Def K mg "dictators" s_dictators f fd) (b : Binds K fd ["instance", "call"] []) : C8.Cal P w K mg base 4 "dictators" (sp_op T.aI T.aC true 0 op_dictators) [] := by
  refine C8.cal0 F b .nil sc_dictators (fun vs H Q E h => ?_) (fun cdv A outer s H vs Q E hr h => ⟨_, (pss_cons (ps_setLc (i := 3) rfl sc_dictators.nd rfl rfl (sw_true rfl rfl rfl (by decide +kernel)) (own := [("agent", 2)]) (g := gName 2) (pi_range1 (by rfl) T.range (pa_cons (pe_fld (pv 0) rfl) pa_nil)) (blkOk_by (own := [("agent", 2)]) (N := ["instance", "call", "agent", "found"]) (sc := C8.fnScope (topS 55)) (by decide +kernel)) (fun _ _ _ _ _ => (pg_name (i := 2) sc_dictators.nd rfl (Or.inl rfl))) (fun _ _ _ _ _ => (pts_one (pt_val (C8.pe_c c_is_dictator hr (by decide) rfl (pa_cons (pv 0) (pa_cons (pv 2) pa_nil)))))) (fun _ _ _ _ _ => (pv 2)))
  (pss_one (ps_ret (pe_op op_cat (pe_lst (pa_cons (pe_callB call_len_seq (by rfl) T.len PySem.boot_len (pa_cons (pv 3) pa_nil)) pa_nil)) (pv 3))))), ?_⟩)
  · obtain ⟨X, a, D, O, c, m, p, xs, row, rfl, _⟩ := h
    rfl
  · obtain ⟨X, a, D, O, c, m, p, xs, row, rfl, hX, W, hC, hn, h8, hrd, q⟩ := h
    have hr := hrd rfl
    have hI := hX.inst
    have hn3 := W.n3
    have hdl : m.dictators.length ≤ 3 := by
      unfold SocialChoice.dictators SocialChoice.agents
      have := List.length_filter_le (fun i => m.profiles.all fun t => m.range.all fun x => !(Su193.prefers (m.reported i t) x (m.outcome t))) (List.range m.agentCount)
      rw [List.length_range] at this
      omega
    refine q_asgL (xs := nvs m.dictators) (by
      have r := el_lcR1 (te := tVar 2) (t := tB (tCall (sp_is_dictator T.aI) [] C8.E0 (tCons (tVar 0) (tCons (tVar 2) tNil)))) (ta := tCons (tFld K (tVar 0) "agent_count") tNil) (j := 2) (vs := [2]) (σ := [some (.ref a), some (.ref c), none, none]) (H := H) (n := (m.agentCount : Int)) (isDict m) nv (ea_cons (ev_n T hI (ev_var rfl)) ea_nil) (by omega) (fun x => rfl) (fun i H1 e1 hi => et_B (ev_call (ea_cons (ev_var rfl) (ea_cons (ev_var rfl) ea_nil)) fun H2 e2 Q2 q2 E2 => ⟨a, D, O, m, i, rfl, hI.mono (e1.trans e2), W, by omega, q2⟩)) (fun i H1 e1 hi _ => ev_var rfl)
      exact r) fun pf H1 hpf e1 hl => ?_
    refine ro_ret hX q e1 (xs := [nv m.dictators.length] ++ nvs m.dictators) (el_catL (el_lst (ea_cons (ev_is (ev_len (ev_var rfl) (sq_of hl)) (by show V.int _ = V.int _; rw [List.length_map])) ea_nil) (by show 1 ≤ 100000; decide)) (ev_var rfl) hl (by rw [List.length_map]; show 1 + _ ≤ 100000; omega)) (ex1 (r := (m, Su193.okList m.dictators)) (if_neg (ready_not hr))) ?_
    show _ = V.int _ :: (Su193Neutral.outs m.dictators).map V.int
    rw [outs_nvs]
    rfl
/-! ### found_or_not, monotonicity_violation, inefficient_profile -/
def fnL (o : Option (List Nat)) : List Nat := match o with
  | none => [0]
  | some l => 1 :: l
abbrev s_found_or_not : Stmt := topS 56
theorem sc_found_or_not : FnScope ["found"] ["found"] (C8.fnScope (topS 56)) := C8.fnScope_by (by decide +kernel)
def sp_found_or_not : Sp := fun vs H Q _ => ∃ (v : V) (o : Option (List Nat)), vs = [v] ∧ ((o = none ∧ v = .non) ∨ ∃ l p, o = some l ∧ v = .ref p ∧ H p = some (.lst (nvs l)) ∧ l.length ≤ 1000) ∧ RetL (nvs (fnL o)) H Q
theorem cal_found_or_not (T : Txt K mg) {f : Addr} {fd : FuncData} (F : C8.Def K mg "found_or_not" s_found_or_not f fd) (b : Binds K fd ["found"] []) : C8.Cal P w K mg base 1 "found_or_not" sp_found_or_not [] := by
  refine C8.cal0 F b .nil sc_found_or_not (fun vs H Q E h => ?_) (fun cdv A outer s H vs Q E hr h => ⟨_, (pss_cons (ps_if (pt_cmpR op_isN (pv 0) pe_non (nomark _))
  (pss_one (ps_ret (pe_lst (pa_cons pe_int pa_nil))))
  pss_nil)
  (pss_one (ps_ret (pe_op op_cat (pe_lst (pa_cons pe_int pa_nil)) (pv 0))))), ?_⟩)
  · obtain ⟨v, o, rfl, _⟩ := h
    rfl
  · obtain ⟨v, o, rfl, hv, q⟩ := h
    rcases hv with ⟨rfl, rfl⟩ | ⟨l, p, rfl, rfl, hp, hl⟩
    · exact q_when (et_isNon rfl) (fun _ H2 e2 => s_retL (xs := nvs [0]) el_code fun p H3 hp3 e3 hl3 => q p H3 (fresh_back e2 hp3) (e2.trans e3) hl3) (fun hb => by cases hb)
    · refine q_when (et_isNon rfl) (fun hb => by cases hb) (fun _ H2 e2 => s_retL (xs := nvs (1 :: l)) ?_ fun p H3 hp3 e3 hl3 => q p H3 (fresh_back e2 hp3) (e2.trans e3) hl3)
      have r1 := el_catL (σ := [some (.ref p)]) (H := H2) (ta := tLst (tCons (tC (.int 1)) tNil)) (tb := tVar 0) (xs := [nv 1]) (ys := nvs l) (el_lst (ea_cons ev_c ea_nil) (by show 1 ≤ 100000; decide)) (ev_var rfl) (e2 p _ hp) (by rw [List.length_map]; show 1 + l.length ≤ 100000; omega)
      exact r1
theorem el_fn {o : Option (List Nat)} (h : EvOp te σ H o) (hl : ∀ l, o = some l → l.length ≤ 1000) : EvL (tCall sp_found_or_not [] C8.E0 (tCons te tNil)) σ H (nvs (fnL o)) := fun H1 e Q q => h H1 e _ (by
  cases o with
  | none => exact fun H2 e2 => ⟨.non, none, rfl, .inl ⟨rfl, rfl⟩, fun p H3 hp e3 hl => q p H3 (fresh_back e2 hp) (e2.trans e3) hl⟩
  | some l => exact fun pl H2 hpl e2 hll => ⟨.ref pl, some l, rfl, .inr ⟨l, pl, rfl, rfl, hll, hl l rfl⟩, fun p H3 hp e3 hl => q p H3 (fresh_back e2 hp) (e2.trans e3) hl⟩)
theorem prof_len (W : WF m) {t : List Nat} (h : t ∈ m.profiles) : t.length ≤ 3 := by
  have h1 := isProfile_len (prof_ok W h)
  have := W.n3
  omega
theorem fst_len (W : WF m) {l : List Nat} (h : firstMon m = some l) : l.length ≤ 1000 := by
  unfold firstMon at h
  cases hz : m.monotonicityViolation with
  | none =>
    rw [hz] at h
    cases h
  | some z =>
    rw [hz] at h
    cases h
    rw [mon_eq] at hz
    obtain ⟨t, ht, h2⟩ := List.exists_of_findSome?_eq_some hz
    cases hf : m.profiles.find? (weakQ m t) with
    | none =>
      rw [hf] at h2
      cases h2
    | some u =>
      rw [hf] at h2
      cases h2
      have a1 := prof_len W ht
      have a2 := prof_len W (List.mem_of_find?_eq_some hf)
      rw [List.length_append]
      show t.length + u.length ≤ 1000
      omega
theorem ine_len (W : WF m) {l : List Nat} (h : firstIneff m = some l) : l.length ≤ 1000 := by
  unfold firstIneff at h
  cases hz : m.inefficientProfile with
  | none =>
    rw [hz] at h
    cases h
  | some z =>
    rw [hz] at h
    cases h
    rw [ineff_eq] at hz
    obtain ⟨t, ht, h2⟩ := List.exists_of_findSome?_eq_some hz
    cases hf : (List.range m.alternativeCount).find? (allPref m t) with
    | none =>
      rw [hf] at h2
      cases h2
    | some u =>
      rw [hf] at h2
      cases h2
      have a1 := prof_len W ht
      rw [List.length_cons]
      show t.length + 1 ≤ 1000
      omega
abbrev s_monotonicity_violation : Stmt := topS 57
theorem sc_monotonicity_violation : FnScope ["instance", "call"] ["instance", "call"] (C8.fnScope (topS 57)) := C8.fnScope_by (by decide +kernel)
def op_monotonicity_violation (xs row : List Nat) : Su193.Operation := .monotonicityViolation
theorem cal_monotonicity_violation (T : Txt K mg) (c_found_or_not : C8.Cal P w K mg base 1 "found_or_not" sp_found_or_not []) (c_first_monotonicity_violation : C8.Cal P w K mg base 4 "first_monotonicity_violation" (sp_first_monotonicity_violation T.aI) []) {f : Addr} {fd : FuncData} (F : C8.Def K mg "monotonicity_violation" s_monotonicity_violation f fd) (b : Binds K fd ["instance", "call"] []) : C8.Cal P w K mg base 5 "monotonicity_violation" (sp_op T.aI T.aC true 0 op_monotonicity_violation) [] := by
  refine C8.cal0 F b .nil sc_monotonicity_violation (fun vs H Q E h => ?_) (fun cdv A outer s H vs Q E hr h => ⟨_, (pss_one (ps_ret (C8.pe_c c_found_or_not hr (by decide) rfl (pa_cons (C8.pe_c c_first_monotonicity_violation hr (by decide) rfl (pa_cons (pv 0) pa_nil)) pa_nil)))), ?_⟩)
  · obtain ⟨X, a, D, O, c, m, p, xs, row, rfl, _⟩ := h
    rfl
  · obtain ⟨X, a, D, O, c, m, p, xs, row, rfl, hX, W, hC, hn, h8, hrd, q⟩ := h
    have hr := hrd rfl
    have hI := hX.inst
    have hexe : exec m .monotonicityViolation = (m, (fnL (firstMon m)).map fun n : Nat => (n : Int)) := by
      unfold firstMon
      cases hm : m.monotonicityViolation with
      | none => exact ex1 (r := (m, Su193.ok 0 [])) ((if_neg (ready_not hr)).trans (by rw [hm]))
      | some z => exact ex1 (r := (m, Su193.ok 1 (z.1 ++ z.2))) ((if_neg (ready_not hr)).trans (by rw [hm]))
    exact ro_ret hX q (Ex.refl H) (el_fn (eop_call (ea_cons (ev_var rfl) ea_nil) fun H1 e1 Q1 q1 E1 => ⟨a, D, O, m, rfl, hI.mono e1, W, q1⟩) fun l hl => fst_len W hl) hexe (nvs_int _)
abbrev s_inefficient_profile : Stmt := topS 58
theorem sc_inefficient_profile : FnScope ["instance", "call"] ["instance", "call"] (C8.fnScope (topS 58)) := C8.fnScope_by (by decide +kernel)
def op_inefficient_profile (xs row : List Nat) : Su193.Operation := .inefficientProfile
theorem cal_inefficient_profile (T : Txt K mg) (c_found_or_not : C8.Cal P w K mg base 1 "found_or_not" sp_found_or_not []) (c_first_inefficiency : C8.Cal P w K mg base 3 "first_inefficiency" (sp_first_inefficiency T.aI) []) {f : Addr} {fd : FuncData} (F : C8.Def K mg "inefficient_profile" s_inefficient_profile f fd) (b : Binds K fd ["instance", "call"] []) : C8.Cal P w K mg base 4 "inefficient_profile" (sp_op T.aI T.aC true 0 op_inefficient_profile) [] := by
  refine C8.cal0 F b .nil sc_inefficient_profile (fun vs H Q E h => ?_) (fun cdv A outer s H vs Q E hr h => ⟨_, (pss_one (ps_ret (C8.pe_c c_found_or_not hr (by decide) rfl (pa_cons (C8.pe_c c_first_inefficiency hr (by decide) rfl (pa_cons (pv 0) pa_nil)) pa_nil)))), ?_⟩)
  · obtain ⟨X, a, D, O, c, m, p, xs, row, rfl, _⟩ := h
    rfl
  · obtain ⟨X, a, D, O, c, m, p, xs, row, rfl, hX, W, hC, hn, h8, hrd, q⟩ := h
    have hr := hrd rfl
    have hI := hX.inst
    have hexe : exec m .inefficientProfile = (m, (fnL (firstIneff m)).map fun n : Nat => (n : Int)) := by
      unfold firstIneff
      cases hm : m.inefficientProfile with
      | none => exact ex1 (r := (m, Su193.ok 0 [])) ((if_neg (ready_not hr)).trans (by rw [hm]))
      | some z => exact ex1 (r := (m, Su193.ok 1 (z.2 :: z.1))) ((if_neg (ready_not hr)).trans (by rw [hm]))
    exact ro_ret hX q (Ex.refl H) (el_fn (eop_call (ea_cons (ev_var rfl) ea_nil) fun H1 e1 Q1 q1 E1 => ⟨a, D, O, m, rfl, hI.mono e1, W, q1⟩) fun l hl => ine_len W hl) hexe (nvs_int _)
end
end Tc
namespace Tc
open PySem PySem.Spec PyProof.Rows L2 Evl
open Su193 (SocialChoice)
section
variable {P : Program} {w : World} {K : PySem.W.Frag} {mg : Str → Option Value} {base : Heap} {σ : L2.St} {H H' H1 : Hp} {ta tb te tv tl : TE} {a D O : Addr} {m : SocialChoice} {v : V} {Ds : Ends} {tu tz : TS} {g : TG} {tas : TA}
/-! ## Operations that change the instance -/
/-- an answer behind a change -/
theorem mut_ret {CI O' : Addr} {X : List Addr} {op : Su193.Operation} {Q : VK} {xs : List V} (hd : Done CI X H a D O m op Q) (f : Ex (but H [a, D, O]) H1) (hO : O' = O ∨ but H [a, D, O] O' = none) (hX : InstX CI X H1 a D O' (exec m op).1) (h : EvL te σ H1 xs) (hx : xs = (exec m op).2.map V.int) (hD : Ds.rt = Q := by rfl) : tRet te Ds σ H1 :=
  s_retL h fun r H2 hr e2 hl => by
    subst hD
    refine hd H2 O' r hO (f.trans e2) (hX.mono e2) (fresh_back f hr) ?_
    rw [hl, hx]
/-- a method called for what it does -/
theorem q_dropM {C dx : Addr} {mt : Str} {sp : Sp} {E : XK} {fs : List (Str × V)} {PA : List V → Hp → Prop} (h : Ev ta σ H (.ref a)) (ho : H a = some (.ins C dx fs)) (hm : fs.lookup mt = none) (ht : EvAP tas σ H PA) (k : ∀ vs H1, Ex H H1 → PA vs H1 → sp (.ref a :: (vs ++ [])) H1 (fun _ H2 => tz Ds σ H2) E) :
    tSeq (tDrop (tMeth C mt sp [] E ta tas)) tz Ds σ H := h H (Ex.refl H) _ fun H2 e2 => ⟨a, dx, fs, rfl, e2 a _ ho, hm, ht H2 e2 _ fun vs H3 e3 hP => k vs H3 (e2.trans e3) hP⟩
theorem eap_consL2 {tr : TA} {PA : List V → Hp → Prop} (h : Ev te σ H v) (hr : EvAP tr σ H PA) : EvAP (tCons te tr) σ H (fun us H2 => ∃ vs, us = v :: vs ∧ PA vs H2) := eap_cons2 h hr
/-- a new list as the last argument, and that it is new -/
theorem eap_LF {xs : List V} (h : EvL te σ H xs) : EvAP (tCons te tNil) σ H (fun us H2 => ∃ p, us = [.ref p] ∧ H p = none ∧ H2 p = some (.lst xs)) := fun H1 e Q q =>
  h H1 e _ fun p H2 hp e2 h2 => q _ H2 e2 ⟨p, rfl, fresh_back e hp, h2⟩
/-! ### add_preference -/
theorem rv_inN {p q : Addr} {l : List Nat} {rs : List (List Nat)} (hp : H p = some (.lst (nvs l))) (hq : LLN H q rs) : RV (rInD K) (.ref p) (.ref q) H (.bl (rs.contains l)) := fun H1 e Q k => by
  obtain ⟨qs, h1, h2⟩ := hq.pair
  refine ⟨dN l, rs.map dN, dp_N (e p _ hp), .lst (sq_of (e q _ h1)) (dp_all (fun q x h => dp_N (e q _ h)) h2), shaped_N l, shaped_NN rs, ?_⟩
  rw [any_map_fn (p := fun z => decide (z = l)) (fun z => eqv_N z l)]
  have e4 : (rs.any fun z => decide (z = l)) = rs.contains l := by
    rw [Bool.eq_iff_iff, List.any_eq_true, List.contains_iff_mem]
    constructor
    · rintro ⟨z, hz, h⟩
      rw [← of_decide_eq_true h]
      exact hz
    · intro h
      exact ⟨l, h, decide_eq_true rfl⟩
  rw [e4]
  exact k H1 (Ex.refl H1)
theorem LLN.append {p q : Addr} {rs : List (List Nat)} {l : List Nat} {qs : List Addr} (h1 : H p = some (.lst (rfs qs ++ [.ref q]))) (h2 : Paired (fun q r => H q = some (.lst (nvs r))) qs rs) (h3 : H q = some (.lst (nvs l))) : LLN H p (rs ++ [l]) :=
  LLN.of_pair (qs := qs ++ [q]) (by rw [h1]; simp [rfs]) (papp h2 (.cons h3 .nil))
abbrev s_add_preference : Stmt := topS 42
theorem sc_add_preference : FnScope ["instance", "call", "agent", "domain"] ["instance", "call"] (C8.fnScope (topS 42)) := C8.fnScope_by (by decide +kernel)
def op_add_preference (xs row : List Nat) : Su193.Operation := .addPreference (xs.getD 0 0) row
theorem cal_add_preference (T : Txt K mg) (m_replace_domain : C8.Met P w K mg base 3 T.aI "replace_domain" (sp_Instance_replace_domain T.aI) []) (c_is_ranking : C8.Cal P w K mg base 1 "is_ranking" sp_is_ranking []) (m_has_agent : C8.Met P w K mg base 1 T.aI "has_agent" (sp_Instance_has_agent T.aI) []) {f : Addr} {fd : FuncData} (F : C8.Def K mg "add_preference" s_add_preference f fd) (b : Binds K fd ["instance", "call"] []) : C8.Cal P w K mg base 4 "add_preference" (sp_op T.aI T.aC false 1 op_add_preference) [] := by
  refine C8.cal0 F b .nil sc_add_preference (fun vs H Q E h => ?_) (fun cdv A outer s H vs Q E hr h => ⟨_, (pss_cons (ps_set (i := 2) sc_add_preference.nd rfl (Or.inl rfl) (pe_ix ix_list (pe_fld (pv 1) rfl) pe_int (fun _ _ => rfl)))
  (pss_cons (ps_if (pt_not (pt_val (C8.pe_mt m_has_agent hr (by decide) (pv 0) (pa_cons (pv 2) pa_nil))))
  (pss_one (ps_ret (pe_lst (pa_cons (C8.pe_gc rfl T.g_NO_AGENT) pa_nil))))
  pss_nil)
  (pss_cons (ps_if (pt_not (pt_val (C8.pe_c c_is_ranking hr (by decide) rfl (pa_cons (pe_fld (pv 1) rfl) (pa_cons (pe_fld (pv 0) rfl) pa_nil)))))
  (pss_one (ps_ret (pe_lst (pa_cons (C8.pe_gc rfl T.g_INVALID) pa_nil))))
  pss_nil)
  (pss_cons (ps_set (i := 3) sc_add_preference.nd rfl (Or.inl rfl) (pe_ix ix_list (pe_fld (pv 0) rfl) (pv 2) (fun _ _ => rfl)))
  (pss_cons (ps_if (pt_cmpR (op_inD (hu65 hr)) (pe_fld (pv 1) rfl) (pv 3) (by rfl))
  (pss_one (ps_ret (pe_lst (pa_cons (C8.pe_gc rfl T.g_KNOWN_PREFERENCE) pa_nil))))
  pss_nil)
  (pss_cons (ps_if (pt_cmpR op_ge (pe_callB call_len_seq (by rfl) T.len PySem.boot_len (pa_cons (pv 3) pa_nil)) (C8.pe_gc rfl T.g_DOMAIN_LIMIT) (nomark _))
  (pss_one (ps_ret (pe_lst (pa_cons (C8.pe_gc rfl T.g_LIMIT_REACHED) pa_nil))))
  pss_nil)
  (pss_cons (ps_expr (C8.pe_mt m_replace_domain hr (by decide) (pv 0) (pa_cons (pv 2) (pa_cons (pe_op op_cat (pv 3) (pe_lst (pa_cons (pe_fld (pv 1) rfl) pa_nil))) pa_nil))))
  (pss_one (ps_ret (pe_lst (pa_cons (pe_callB call_len_seq (by rfl) T.len PySem.boot_len (pa_cons (pv 3) pa_nil)) pa_nil))))))))))), ?_⟩)
  · obtain ⟨X, a, D, O, c, m, p, xs, row, rfl, _⟩ := h
    rfl
  · obtain ⟨X, a, D, O, c, m, p, xs, row, rfl, hX, W, hC, hn, h8, hrd, q⟩ := h
    obtain ⟨dx, ln, lr, b1, b2, b3⟩ := hC
    have c1 := but_ex H _ _ _ b1
    have c2 := but_ex H _ _ _ b2
    have c3 := but_ex H _ _ _ b3
    have hk4 := W.k4
    refine q_asg (v := nv (xs.getD 0 0)) (ev_num0 T hn rfl c1 c2) fun H1 e1 => ?_
    unfold op_add_preference at q
    revert q
    generalize xs.getD 0 0 = i
    intro q
    have hX1 := hX.mono e1
    refine q_when (et_noAgent T hX1 rfl rfl) (fun hb H2 e2 => ?_) (fun hb H2 e2 => ?_)
    · exact ro_ret hX q (e1.trans e2) el_code (ex1 (r := (m, Su193.error (-2))) (if_pos (no_agent hb))) rfl
    have hi := is_agent hb
    have hni : ¬ m.agentCount ≤ i := by omega
    have E2 := e1.trans e2
    refine q_when (b := !Su193.isPreference m.alternativeCount row) (et_not (et_B (ev_call (ea_cons (ev_row T rfl (E2 c _ c1)) (ea_cons (ev_k T (hX.inst.mono E2) (ev_var rfl)) ea_nil)) fun H3 e3 Q3 q3 E3 => ⟨lr, row, m.alternativeCount, rfl, (E2.trans e3) lr _ c3, by omega, by omega, q3⟩))) (fun hb2 H3 e3 => ?_) (fun hb2 H3 e3 => ?_)
    · have hb' : Su193.isPreference m.alternativeCount row = false := by simpa using hb2
      exact ro_ret hX q (E2.trans e3) el_code (ex1 (r := (m, Su193.error (-22))) ((if_neg hni).trans (if_pos hb'))) rfl
    have hpr : Su193.isPreference m.alternativeCount row = true := by simpa using hb2
    have hnp : ¬ Su193.isPreference m.alternativeCount row = false := by rw [hpr]; decide
    have E3 := E2.trans e3
    obtain ⟨ds, g1, g2⟩ := (hX.mono E3).domsX
    obtain ⟨d, hd, hl⟩ := pget g2 (dom_at W hi)
    obtain ⟨qs, f1, f2⟩ := hl.pair
    have hl3 := LLN.mono (but_ex H3 _) hl
    refine q_asg (v := .ref d) (ev_ix (ev_D T (hX.mono E3).inst (ev_var rfl)) (ev_var rfl) (sq_of g1) (rfs_at hd)) fun H4 e4 => ?_
    have E4 := E3.trans e4
    refine q_when (b := (m.domain i).contains row) (et_test (ev_op (ev_row T rfl (E4 c _ c1)) (ev_var rfl) (rv_inN (E4 lr _ c3) (LLN.mono e4 hl3)))) (fun hb3 H5 e5 => ?_) (fun hb3 H5 e5 => ?_)
    · exact ro_ret hX q (E4.trans e5) el_code (ex1 (r := (m, Su193.error (-17))) ((if_neg hni).trans ((if_neg hnp).trans (if_pos hb3)))) rfl
    have hnc : ¬ (m.domain i).contains row = true := by rw [hb3]; decide
    have E5 := E4.trans e5
    have hql : qs.length = (m.domain i).length := plen f2
    have hlen : ∀ {H6 : Hp} {σ' : L2.St}, H6 d = some (.lst (rfs qs)) → σ'[3]? = some (some (.ref d)) → Ev (tCB (rLenS K) (tCons (tVar 3) tNil)) σ' H6 (nv (m.domain i).length) := fun hd6 hσ => ev_is (ev_len (ev_var hσ) (sq_of hd6)) (by show V.int _ = V.int _; rw [List.length_map, hql])
    have d3 : H3 d = some (.lst (rfs qs)) := but_ex H3 _ _ _ f1
    refine q_when (b := decide (6 ≤ (m.domain i).length)) (et_test (ev_ge (b := 6) (hlen ((e4.trans e5) d _ d3) rfl) ev_c)) (fun hb4 H6 e6 => ?_) (fun hb4 H6 e6 => ?_)
    · exact ro_ret hX q (E5.trans e6) el_code (ex1 (r := (m, Su193.error (-28))) ((if_neg hni).trans ((if_neg hnp).trans ((if_neg hnc).trans (if_pos (of_decide_eq_true hb4)))))) rfl
    have h6 : ¬ 6 ≤ (m.domain i).length := of_decide_eq_false hb4
    have E6 := E5.trans e6
    have hX6 := hX.mono E6
    obtain ⟨dx6, ha6⟩ := hX6.inst.at_
    have e36 := (e4.trans e5).trans e6
    refine q_dropM (PA := fun vs H7 => ∃ z, vs = [nv i, .ref z] ∧ H6 z = none ∧ H7 z = some (.lst (rfs qs ++ [.ref lr]))) (ev_var rfl) ha6 rfl (fun H7 e7 Q7 q7 => eap_consL2 (ev_var rfl) (eap_LF (xs := rfs qs ++ [.ref lr]) (el_catR (ev_var rfl) (el_lst (ea_cons (ev_row T rfl (E6 c _ c1)) ea_nil) (by show 1 ≤ 100000; decide)) (e36 d _ d3) (by rw [List.length_map]; show qs.length + 1 ≤ 100000; omega))) H7 e7 Q7 fun vs H8 e8 hv => by
      obtain ⟨us, rfl, z, rfl, hz, hl8⟩ := hv
      exact q7 _ H8 e8 ⟨z, rfl, hz, hl8⟩) fun vs H7 e7 hv => ?_
    obtain ⟨z, rfl, hz, hl7⟩ := hv
    have E7 := E6.trans e7
    have hX7 := hX6.mono e7
    have hzH7 : z ∉ (a :: D :: O :: X) := fun hm => by
      simp only [List.mem_cons] at hm
      rcases hm with h | h | h | h
      · rw [h, ha6] at hz
        cases hz
      · obtain ⟨ds6, hD6, _⟩ := hX6.domsX
        rw [h, hD6] at hz
        cases hz
      · rw [h, hX6.inst.outs] at hz
        cases hz
      · exact hX6.XH z h hz
    have hlrX := (but_some b3).1
    refine ⟨X, a, D, O, z, m, i, m.domain i ++ [row], rfl, hX7, W, hi, LLN.append (but_of hzH7 hl7) (pmono (fun x y h => but_of (but_some h).1 ((e36.trans e7) _ _ (but_some h).2)) f2) (but_of hlrX (E7 lr _ c3)), by rw [List.length_append]; show _ + 1 ≤ 6; omega, fun H8 O' hO' f8 hX8 => ?_⟩
    have hexe : exec m (.addPreference i row) = (newDom m i (m.domain i ++ [row]), [((m.domain i).length : Int)]) := ex1 (r := (newDom m i (m.domain i ++ [row]), Su193.ok (m.domain i).length [])) ((if_neg hni).trans ((if_neg hnp).trans ((if_neg hnc).trans (if_neg h6))))
    have hdn := (but_some f1).1
    simp only [List.mem_cons, not_or] at hdn
    have hd8 : H8 d = some (.lst (rfs qs)) := f8 d _ (but_of (by simp only [List.mem_cons, List.not_mem_nil, or_false, not_or]; exact ⟨hdn.1, hdn.2.1, hdn.2.2.1⟩) ((e36.trans e7) d _ d3))
    refine mut_ret (O' := O') q (fun x o h => f8 x o (but_of (but_some h).1 (E7 x o (but_some h).2))) (.inr (but_fresh (fresh_back E7 hO'))) ?_ (xs := [nv (m.domain i).length]) (el_lst (ea_cons (hlen hd8 rfl) ea_nil) (by show 1 ≤ 100000; decide)) ?_
    · rw [hexe]
      exact hX8
    · rw [hexe]
      rfl
/-! ### set_full_domain -/
theorem itR_perm {k : Nat} (h2 : 2 ≤ k) (h4 : k ≤ 4) : itR k k = Su193.permutations k (List.range k) := by
  have all : ∀ k, k < 5 → 2 ≤ k → itR k k = Su193.permutations k (List.range k) := by decide +kernel
  exact all k (by omega) h2
theorem itR_len {k : Nat} (h2 : 2 ≤ k) (h4 : k ≤ 4) : 6 < (itR k k).length ↔ 3 < k := by
  have all : ∀ k, k < 5 → 2 ≤ k → (6 < (itR k k).length ↔ 3 < k) := by decide +kernel
  exact all k (by omega) h2
abbrev s_set_full_domain : Stmt := topS 43
theorem sc_set_full_domain : FnScope ["instance", "call", "agent", "rankings"] ["instance", "call"] (C8.fnScope (topS 43)) := C8.fnScope_by (by decide +kernel)
def op_set_full_domain (xs row : List Nat) : Su193.Operation := .setFullDomain (xs.getD 0 0)
theorem cal_set_full_domain (T : Txt K mg) (m_replace_domain : C8.Met P w K mg base 3 T.aI "replace_domain" (sp_Instance_replace_domain T.aI) []) (c_all_rankings : C8.Cal P w K mg base 1 "all_rankings" sp_all_rankings []) (m_has_agent : C8.Met P w K mg base 1 T.aI "has_agent" (sp_Instance_has_agent T.aI) []) {f : Addr} {fd : FuncData} (F : C8.Def K mg "set_full_domain" s_set_full_domain f fd) (b : Binds K fd ["instance", "call"] []) : C8.Cal P w K mg base 4 "set_full_domain" (sp_op T.aI T.aC false 1 op_set_full_domain) [] := by
  refine C8.cal0 F b .nil sc_set_full_domain (fun vs H Q E h => ?_) (fun cdv A outer s H vs Q E hr h => ⟨_, (pss_cons (ps_set (i := 2) sc_set_full_domain.nd rfl (Or.inl rfl) (pe_ix ix_list (pe_fld (pv 1) rfl) pe_int (fun _ _ => rfl)))
  (pss_cons (ps_if (pt_not (pt_val (C8.pe_mt m_has_agent hr (by decide) (pv 0) (pa_cons (pv 2) pa_nil))))
  (pss_one (ps_ret (pe_lst (pa_cons (C8.pe_gc rfl T.g_NO_AGENT) pa_nil))))
  pss_nil)
  (pss_cons (ps_set (i := 3) sc_set_full_domain.nd rfl (Or.inl rfl) (C8.pe_c c_all_rankings hr (by decide) rfl (pa_cons (pe_fld (pv 0) rfl) pa_nil)))
  (pss_cons (ps_if (pt_cmpR op_gt (pe_callB call_len_seq (by rfl) T.len PySem.boot_len (pa_cons (pv 3) pa_nil)) (C8.pe_gc rfl T.g_DOMAIN_LIMIT) (nomark _))
  (pss_one (ps_ret (pe_lst (pa_cons (C8.pe_gc rfl T.g_LIMIT_REACHED) pa_nil))))
  pss_nil)
  (pss_cons (ps_expr (C8.pe_mt m_replace_domain hr (by decide) (pv 0) (pa_cons (pv 2) (pa_cons (pv 3) pa_nil))))
  (pss_one (ps_ret (pe_lst (pa_cons (pe_callB call_len_seq (by rfl) T.len PySem.boot_len (pa_cons (pv 3) pa_nil)) pa_nil))))))))), ?_⟩)
  · obtain ⟨X, a, D, O, c, m, p, xs, row, rfl, _⟩ := h
    rfl
  · obtain ⟨X, a, D, O, c, m, p, xs, row, rfl, hX, W, hC, hn, h8, hrd, q⟩ := h
    obtain ⟨dx, ln, lr, c1, c2, c3⟩ := hC.mono (but_ex H _)
    have hk2 := W.k2
    have hk4 := W.k4
    refine q_asg (v := nv (xs.getD 0 0)) (ev_num0 T hn rfl c1 c2) fun H1 e1 => ?_
    unfold op_set_full_domain at q
    revert q
    generalize xs.getD 0 0 = i
    intro q
    have hX1 := hX.mono e1
    refine q_when (et_noAgent T hX1 rfl rfl) (fun hb H2 e2 => ?_) (fun hb H2 e2 => ?_)
    · exact ro_ret hX q (e1.trans e2) el_code (ex1 (r := (m, Su193.error (-2))) (if_pos (no_agent hb))) rfl
    have hi := is_agent hb
    have hni : ¬ m.agentCount ≤ i := by omega
    have E2 := e1.trans e2
    have hX2 := hX.mono E2
    refine q_asgP (P := fun v H3 => ∃ z, v = .ref z ∧ H2 z = none ∧ LLVF H2 H3 z ((itR m.alternativeCount m.alternativeCount).map nvs)) (ep_call (ea_cons (ev_k T hX2.inst (ev_var rfl)) ea_nil) fun H3 e3 Q3 q3 E3 => ⟨m.alternativeCount, rfl, hk2, hk4, fun v H4 e4 hv => q3 v H4 e4 (by
      obtain ⟨z, rfl, hz, hl⟩ := hv
      exact ⟨z, rfl, fresh_back e3 hz, LLVF.back e3 hl⟩)⟩) fun v H3 e3 hv => ?_
    obtain ⟨z, rfl, hz, qs, f1, f2, f3⟩ := hv
    have E3 := E2.trans e3
    have hql : qs.length = (itR m.alternativeCount m.alternativeCount).length := by rw [plen f2, List.length_map]
    have hlen : ∀ {H6 : Hp} {σ' : L2.St}, H6 z = some (.lst (rfs qs)) → σ'[3]? = some (some (.ref z)) → Ev (tCB (rLenS K) (tCons (tVar 3) tNil)) σ' H6 (nv (itR m.alternativeCount m.alternativeCount).length) := fun hd6 hσ => ev_is (ev_len (ev_var hσ) (sq_of hd6)) (by show V.int _ = V.int _; rw [List.length_map, hql])
    refine q_when (b := decide (6 < (itR m.alternativeCount m.alternativeCount).length)) (et_test (ev_gt (b := 6) (hlen f1 rfl) ev_c)) (fun hb4 H4 e4 => ?_) (fun hb4 H4 e4 => ?_)
    · exact ro_ret hX q (E3.trans e4) el_code (ex1 (r := (m, Su193.error (-28))) ((if_neg hni).trans (if_pos ((itR_len hk2 hk4).mp (of_decide_eq_true hb4))))) rfl
    have h6 : ¬ 6 < (itR m.alternativeCount m.alternativeCount).length := of_decide_eq_false hb4
    have hn3 : ¬ 3 < m.alternativeCount := fun h => h6 ((itR_len hk2 hk4).mpr h)
    have E4 := E3.trans e4
    have hX4 := hX.mono E4
    obtain ⟨dx4, ha4⟩ := hX4.inst.at_
    refine q_dropM (PA := fun vs H5 => vs = [nv i, .ref z]) (ev_var rfl) ha4 rfl (fun H5 e5 Q5 q5 => ea_cons (ev_var rfl) (ea_cons (ev_var rfl) ea_nil) H5 e5 Q5 fun H6 e6 => q5 _ H6 e6 rfl) fun vs H5 e5 hv => ?_
    subst hv
    have E5 := E4.trans e5
    have hX5 := hX4.mono e5
    have apart : ∀ x, H2 x = none → x ∉ (a :: D :: O :: X) := fun x hx hm => by
      simp only [List.mem_cons] at hm
      rcases hm with h | h | h | h
      · obtain ⟨dx2, ha2⟩ := hX2.inst.at_
        rw [h, ha2] at hx
        cases hx
      · obtain ⟨ds2, hD2, _⟩ := hX2.domsX
        rw [h, hD2] at hx
        cases hx
      · rw [h, hX2.inst.outs] at hx
        cases hx
      · exact hX2.XH x h hx
    have hz5 : H5 z = some (.lst (rfs qs)) := (e4.trans e5) z _ f1
    refine ⟨X, a, D, O, z, m, i, itR m.alternativeCount m.alternativeCount, rfl, hX5, W, hi, ⟨qs, but_of (apart z hz) hz5, ?_⟩, by omega, fun H8 O' hO' f8 hX8 => ?_⟩
    · refine paired_of (plen f2) fun j x y hx hy => ?_
      obtain ⟨y', hy', hxy⟩ := pget' f2 hx
      rw [hy] at hy'
      have e7 := Option.some.inj hy'
      subst e7
      exact but_of (apart x (f3 x (List.mem_of_getElem? hx))) ((e4.trans e5) x _ hxy)
    have hexe : exec m (.setFullDomain i) = (newDom m i (itR m.alternativeCount m.alternativeCount), [((itR m.alternativeCount m.alternativeCount).length : Int)]) := by
      rw [itR_perm hk2 hk4]
      exact ex1 (r := (newDom m i (Su193.permutations m.alternativeCount m.alternatives), Su193.ok (Su193.permutations m.alternativeCount m.alternatives).length [])) ((if_neg hni).trans (if_neg hn3))
    have hza := apart z hz
    simp only [List.mem_cons, not_or] at hza
    have hd8 : H8 z = some (.lst (rfs qs)) := f8 z _ (but_of (by simp only [List.mem_cons, List.not_mem_nil, or_false, not_or]; exact ⟨hza.1, hza.2.1, hza.2.2.1⟩) hz5)
    refine mut_ret (O' := O') q (fun x o h => f8 x o (but_of (but_some h).1 (E5 x o (but_some h).2))) (.inr (but_fresh (fresh_back E5 hO'))) ?_ (xs := [nv (itR m.alternativeCount m.alternativeCount).length]) (el_lst (ea_cons (hlen hd8 rfl) ea_nil) (by show 1 ≤ 100000; decide)) ?_
    · rw [hexe]
      exact hX8
    · rw [hexe]
      rfl
/-! ### set_outcome -/
theorem inst_setO {CI : Addr} {X : List Addr} {outs : List Nat} (I : InstX CI X H a D O m) (e : Ex H H1) : InstX CI X (upd H1 O (.lst (nvs outs))) a D O { m with outcomes := outs } ∧ Ex (but H [a, D, O]) (upd H1 O (.lst (nvs outs))) := by
  obtain ⟨dx, ha⟩ := I.inst.at_
  obtain ⟨ds, hD, hds⟩ := I.domsX
  have haO : a ≠ O := ne_kind ha I.inst.outs (by intro z; cases z)
  have mv : Ex (but H (a :: D :: O :: X)) (but (upd H1 O (.lst (nvs outs))) (a :: D :: O :: X)) := fun x o h => by
    obtain ⟨h1, h2⟩ := but_some h
    refine but_of h1 ?_
    simp only [List.mem_cons, not_or] at h1
    rw [upd_ne h1.2.2.1]
    exact e x o h2
  have hds' := pmono (fun x y h => LLN.mono mv h) hds
  have hD' : (upd H1 O (.lst (nvs outs))) D = some (.lst (rfs ds)) := by
    rw [upd_ne I.inst.dne]
    exact e D _ hD
  refine ⟨⟨⟨⟨dx, by rw [upd_ne haO]; exact e a _ ha⟩, upd_same, I.inst.dne, ds, hD', pmono (fun x y h => LLN.mono (but_sub fun z hz => by
    simp only [List.mem_cons, List.not_mem_nil, or_false] at hz
    simp only [List.mem_cons]
    rcases hz with h | h | h
    · exact .inl h
    · exact .inr (.inl h)
    · exact .inr (.inr (.inl h))) h) hds'⟩, I.aX, I.DX, I.OX, fun x hx hn => ?_, ds, hD', hds'⟩, Ex.mut ((but_ex H _).trans e) (but_none (by simp))⟩
  by_cases hxO : x = O
  · exact I.OX (hxO ▸ hx)
  · rw [upd_ne hxO] at hn
    exact I.XH x hx (fresh_back e hn)
abbrev s_set_outcome : Stmt := topS 44
theorem sc_set_outcome : FnScope ["instance", "call", "alternative", "place", "previous"] ["instance", "call"] (C8.fnScope (topS 44)) := C8.fnScope_by (by decide +kernel)
def op_set_outcome (xs row : List Nat) : Su193.Operation := .setOutcome (xs.getD 0 0) row
theorem cal_set_outcome (T : Txt K mg) (m_place_of : C8.Met P w K mg base 1 T.aI "place_of" (sp_Instance_place_of T.aI) []) (m_has_profile : C8.Met P w K mg base 1 T.aI "has_profile" (sp_Instance_has_profile T.aI) []) (m_has_alternative : C8.Met P w K mg base 1 T.aI "has_alternative" (sp_Instance_has_alternative T.aI) []) {f : Addr} {fd : FuncData} (F : C8.Def K mg "set_outcome" s_set_outcome f fd) (b : Binds K fd ["instance", "call"] []) : C8.Cal P w K mg base 2 "set_outcome" (sp_op T.aI T.aC true 1 op_set_outcome) [] := by
  refine C8.cal0 F b .nil sc_set_outcome (fun vs H Q E h => ?_) (fun cdv A outer s H vs Q E hr h => ⟨_, (pss_cons (ps_set (i := 2) sc_set_outcome.nd rfl (Or.inl rfl) (pe_ix ix_list (pe_fld (pv 1) rfl) pe_int (fun _ _ => rfl)))
  (pss_cons (ps_if (PW.pt (pw_or (pt_not (pt_val (C8.pe_mt m_has_alternative hr (by decide) (pv 0) (pa_cons (pv 2) pa_nil)))) (pw_or1 (pt_not (pt_val (C8.pe_mt m_has_profile hr (by decide) (pv 0) (pa_cons (pe_fld (pv 1) rfl) pa_nil)))))))
  (pss_one (ps_ret (pe_lst (pa_cons (C8.pe_gc rfl T.g_INVALID) pa_nil))))
  pss_nil)
  (pss_cons (ps_set (i := 3) sc_set_outcome.nd rfl (Or.inl rfl) (C8.pe_mt m_place_of hr (by decide) (pv 0) (pa_cons (pe_fld (pv 1) rfl) pa_nil)))
  (pss_cons (ps_set (i := 4) sc_set_outcome.nd rfl (Or.inl rfl) (pe_ix ix_list (pe_fld (pv 0) rfl) (pv 3) (fun _ _ => rfl)))
  (pss_cons (ps_asg (pv 2) (pg_sub (pe_fld (pv 0) rfl) (pv 3) set_list))
  (pss_one (ps_ret (pe_lst (pa_cons (pv 4) pa_nil))))))))), ?_⟩)
  · obtain ⟨X, a, D, O, c, m, p, xs, row, rfl, _⟩ := h
    rfl
  · obtain ⟨X, a, D, O, c, m, p, xs, row, rfl, hX, W, hC, hn, h8, hrd, q⟩ := h
    obtain ⟨dx, ln, lr, c1, c2, c3⟩ := hC.mono (but_ex H _)
    have hr := hrd rfl
    refine q_asg (v := nv (xs.getD 0 0)) (ev_num0 T hn rfl c1 c2) fun H1 e1 => ?_
    unfold op_set_outcome at q
    revert q
    generalize xs.getD 0 0 = x
    intro q
    have hI1 := hX.inst.mono e1
    refine q_when (b := !decide (x < m.alternativeCount) || !m.isProfile row) (et_or (et_not (et_B (ev_im T hI1 (ev_var rfl) (ea_cons (ev_var rfl) ea_nil) fun H2 e2 Q2 q2 E2 => ⟨a, D, O, m, x, rfl, hI1.mono e2, q2⟩))) fun _ => et_not (et_B (ev_im T hI1 (ev_var rfl) (ea_cons (ev_row T rfl (e1 c _ c1)) ea_nil) fun H2 e2 Q2 q2 E2 => ⟨a, D, O, lr, m, row, rfl, hI1.mono e2, W, (e1.trans e2) lr _ c3, q2⟩))) (fun hb H2 e2 => ?_) (fun hb H2 e2 => ?_)
    · have hb' : m.alternativeCount ≤ x ∨ m.isProfile row = false := by
        rw [Bool.or_eq_true] at hb
        rcases hb with h | h
        · exact .inl (by simpa using h)
        · exact .inr (by simpa using h)
      exact ro_ret hX q (e1.trans e2) el_code (ex1 (r := (m, Su193.error (-22))) ((if_neg (ready_not hr)).trans (if_pos hb'))) rfl
    rw [Bool.or_eq_false_iff] at hb
    have hx : x < m.alternativeCount := by simpa using hb.1
    have hp : m.isProfile row = true := by simpa using hb.2
    have E2 := e1.trans e2
    have hI2 := hX.inst.mono E2
    have hpl : m.profileIndex row < m.outcomes.length := by
      rw [W.ol]
      exact place_lt W hp
    refine q_asg (v := nv (m.profileIndex row)) (ev_im T hI2 (ev_var rfl) (ea_cons (ev_row T rfl (E2 c _ c1)) ea_nil) fun H3 e3 Q3 q3 E3 => ⟨a, D, O, lr, m, row, rfl, hI2.mono e3, W, (E2.trans e3) lr _ c3, hp, q3⟩) fun H3 e3 => ?_
    have hI3 := hI2.mono e3
    refine q_asg (v := nv (m.outcome row)) (ev_ix (i := m.profileIndex row) (ev_O T hI3 (ev_var rfl)) (ev_var rfl) (sq_of hI3.outs) (nvs_at (getD_at hpl))) fun H4 e4 => ?_
    have hI4 := hI3.mono e4
    refine q_setL (l := O) (j := m.profileIndex row) hI4.outs (ev_var rfl) (ev_O T hI4 (ev_var rfl)) (ev_var rfl) (by rw [List.length_map]; exact hpl) fun H5 e5 => ?_
    have E5 := ((E2.trans e3).trans e4).trans e5
    have hset : (nvs m.outcomes).set (m.profileIndex row) (nv x) = nvs (m.outcomes.set (m.profileIndex row) x) := by rw [nvs, nvs, List.map_set]
    rw [hset]
    obtain ⟨r1, r2⟩ := inst_setO (outs := m.outcomes.set (m.profileIndex row) x) hX E5
    have hexe : exec m (.setOutcome x row) = ({ m with outcomes := m.outcomes.set (m.profileIndex row) x }, [((m.outcome row : Nat) : Int)]) := ex1 (r := ({ m with outcomes := m.outcomes.set (m.profileIndex row) x }, Su193.ok (m.outcome row) [])) ((if_neg (ready_not hr)).trans (if_neg (by rw [hp]; intro h; rcases h with h | h; omega; cases h)))
    refine mut_ret (O' := O) q r2 (.inl rfl) ?_ (xs := [nv (m.outcome row)]) (el_lst (ea_cons (ev_var rfl) ea_nil) (by show 1 ≤ 100000; decide)) ?_
    · rw [hexe]
      exact r1
    · rw [hexe]
      rfl
end
end Tc
namespace Tc
open PySem PySem.Spec PyProof.Rows L2 Evl
open Su193 (SocialChoice)
section
variable {P : Program} {w : World} {K : PySem.W.Frag} {mg : Str → Option Value} {base : Heap} {σ : L2.St} {H H' H1 : Hp} {ta tb te tv tl : TE} {a D O : Addr} {m : SocialChoice} {v : V} {Ds : Ends} {tu tz : TS} {g : TG} {tas : TA}
/-- a comprehension over the reported rankings -/
theorem el_lcRep {j : Nat} {vs : List Nat} {rss : List (List (List Nat))} (f : List (List Nat) → V) (h : EvP tl σ H fun v H2 => ∃ c, v = .ref c ∧ RepAt H2 c rss) (hz : rss.length ≤ 40000) (hw : ∀ x, wipe ((wipe σ vs).set j (some x)) vs = wipe σ vs)
    (he : ∀ (i : Nat) (q : Addr) (rs : List (List Nat)) (H1 : Hp), Ex H H1 → rss[i]? = some rs → LLN H1 q rs → Ev te ((wipe σ vs).set j (some (.ref q))) H1 (f rs)) : EvL (tLc (iList K tl) (gName j) tYes te vs) σ H (rss.map f) := by
  refine el_lcP (α := Unit) (xs := fun _ _ _ => True) h fun v H1 e1 hv tl' htl => ?_
  obtain ⟨c, rfl, hc⟩ := hv
  obtain ⟨qs, h1, h2, h3⟩ := hc.list
  refine el_lcDm (xs := rfs qs) (ds := rss) f htl (sq_of h1) (by rw [List.length_map, h2]) hz hw fun i x d H2 e2 hx hd => ?_
  obtain ⟨q, hq, rfl⟩ := rfs_get hx
  obtain ⟨r, hr, hqr⟩ := h3 i q hq
  rw [hr] at hd
  have e5 := Option.some.inj hd
  subst e5
  exact he i q _ H2 (e1.trans e2) hr (LLN.mono e2 hqr)
theorem reps_map (f : List (List Nat) → Nat) (r : List Nat → Nat) (h : ∀ t ∈ m.profiles, f (m.agents.map fun i => m.reported i t) = r t) : (reps m).map f = m.profiles.map r := by
  unfold reps
  rw [List.map_map]
  exact List.map_congr_left h
/-- instance.outcomes = [a rule for ..]; return [0] -/
theorem use_rule {CI : Addr} {X : List Addr} {op : Su193.Operation} {Q : VK} {outs : List Nat} (T : Txt K mg) (hX : InstX T.aI X H a D O m) (hd : Done T.aI X H a D O m op Q) (hE : Ex H H1) (hv : EvL tv σ H1 (nvs outs)) (ho : Ev ta σ H1 (.ref a)) (hex : exec m op = ({ m with outcomes := outs }, [0])) (hD : Ds.rt = Q := by rfl) :
    tSeq (sFld K ta tv "outcomes") (tRet (tLst (tCons (tC (.int 0)) tNil))) Ds σ H1 := by
  have hX1 := hX.mono hE
  obtain ⟨dx, ha⟩ := hX1.inst.at_
  refine q_fldL hv ho ha T.cI T.nI_outcomes (by show 4 < 1000; decide) fun p H2 hp e2 hx => ?_
  obtain ⟨r1, r2⟩ := inst_newO hX1 e2 ha hp hx
  refine mut_ret (O' := p) hd (fun x o h => r2 x o (but_of (but_some h).1 (hE x o (but_some h).2))) (.inr (but_fresh (fresh_back hE hp))) ?_ el_code ?_ hD
  · rw [hex]
    exact r1
  · rw [hex]
    rfl
theorem ep_reps (T : Txt K mg) {X : List Addr} (W : WF m) (hX : InstX T.aI X H a D O m) (h : Ev ta σ H (.ref a)) : EvP (tMeth T.aI "reported_rankings" (sp_Instance_reported_rankings T.aI) [] C8.E0 ta tNil) σ H fun v H2 => ∃ c, v = .ref c ∧ RepAt H2 c (reps m) :=
  ep_im T hX.inst h ea_nil fun H1 e1 Q1 q1 E1 => ⟨a, D, O, m, rfl, hX.inst.mono e1, W, q1⟩
/-! ### use_dictatorship -/
abbrev s_use_dictatorship : Stmt := topS 45
theorem sc_use_dictatorship : FnScope ["instance", "call", "agent", "reported"] ["instance", "call"] (C8.fnScope (topS 45)) := C8.fnScope_by (by decide +kernel)
def op_use_dictatorship (xs row : List Nat) : Su193.Operation := .useDictatorship (xs.getD 0 0)
theorem cal_use_dictatorship (T : Txt K mg) (m_reported_rankings : C8.Met P w K mg base 2 T.aI "reported_rankings" (sp_Instance_reported_rankings T.aI) []) (c_dictatorship : C8.Cal P w K mg base 1 "dictatorship" sp_dictatorship []) (m_has_agent : C8.Met P w K mg base 1 T.aI "has_agent" (sp_Instance_has_agent T.aI) []) {f : Addr} {fd : FuncData} (F : C8.Def K mg "use_dictatorship" s_use_dictatorship f fd) (b : Binds K fd ["instance", "call"] []) : C8.Cal P w K mg base 3 "use_dictatorship" (sp_op T.aI T.aC true 1 op_use_dictatorship) [] := by
  refine C8.cal0 F b .nil sc_use_dictatorship (fun vs H Q E h => ?_) (fun cdv A outer s H vs Q E hr h => ⟨_, (pss_cons (ps_set (i := 2) sc_use_dictatorship.nd rfl (Or.inr rfl) (pe_ix ix_list (pe_fld (pv 1) rfl) pe_int (fun _ _ => rfl)))
  (pss_cons (ps_if (pt_not (pt_val (C8.pe_mt m_has_agent hr (by decide) (pv 0) (pa_cons (pv 2) pa_nil))))
  (pss_one (ps_ret (pe_lst (pa_cons (C8.pe_gc rfl T.g_NO_AGENT) pa_nil))))
  pss_nil)
  (pss_cons (ps_fld (pv 0) (pe_lc (own := [("reported", 3)]) (g := gName 3) (tt := tYes) rfl sc_use_dictatorship.nd (pi_list (C8.pe_mt0 m_reported_rankings hr (by decide) (pv 0))) (blkOk_by (own := [("reported", 3)]) (N := ["instance", "call", "agent", "reported"]) (sc := C8.fnScope (topS 45)) (by decide +kernel)) (fun _ _ _ _ _ => (pg_name (i := 3) sc_use_dictatorship.nd rfl (Or.inl rfl))) (fun _ _ _ _ _ => pts_nil) (fun _ _ _ _ _ => (C8.pe_c c_dictatorship hr (by decide) rfl (pa_cons (pv 3) (pa_cons (pv 2) pa_nil))))) rfl)
  (pss_one (ps_ret (pe_lst (pa_cons pe_int pa_nil))))))), ?_⟩)
  · obtain ⟨X, a, D, O, c, m, p, xs, row, rfl, _⟩ := h
    rfl
  · obtain ⟨X, a, D, O, c, m, p, xs, row, rfl, hX, W, hC, hn, h8, hrd, q⟩ := h
    obtain ⟨dx, ln, lr, c1, c2, c3⟩ := hC.mono (but_ex H _)
    have hr := hrd rfl
    have hpl := profiles_len W
    have hk2 := W.k2
    refine q_asg (v := nv (xs.getD 0 0)) (ev_num0 T hn rfl c1 c2) fun H1 e1 => ?_
    unfold op_use_dictatorship at q
    revert q
    generalize xs.getD 0 0 = i
    intro q
    have hX1 := hX.mono e1
    refine q_when (et_noAgent T hX1 rfl rfl) (fun hb H2 e2 => ?_) (fun hb H2 e2 => ?_)
    · exact ro_ret hX q (e1.trans e2) el_code (ex1 (r := (m, Su193.error (-2))) ((if_neg (ready_not hr)).trans (if_pos (no_agent hb)))) rfl
    have hi := is_agent hb
    have hX2 := hX1.mono e2
    have hrule : (reps m).map (fun rs => Su193.peak (rs.getD i [])) = m.profiles.map fun t => Su193.peak (m.reported i t) := reps_map _ _ fun t ht => by
      rw [List.getD_eq_getElem?_getD, List.getElem?_map]
      unfold SocialChoice.agents
      rw [List.getElem?_range hi]
      rfl
    refine use_rule (CI := T.aI) (outs := (reps m).map fun rs => Su193.peak (rs.getD i [])) T hX q (e1.trans e2) ?_ (ev_var rfl) ?_
    · rw [nvs, List.map_map]
      refine el_lcRep (K := K) (nv ∘ fun rs => Su193.peak (rs.getD i [])) (ep_reps T W hX2 (ev_var rfl)) (by rw [reps_len]; omega) (fun x => rfl) fun j qq rs H3 e3 hrs hl => ?_
      obtain ⟨w1, w2⟩ := reps_ok W (List.mem_of_getElem? hrs)
      have hat : rs[i]? = some (rs.getD i []) := by
        rw [List.getD_eq_getElem?_getD, List.getElem?_eq_getElem (by omega)]
        rfl
      have hpr := w2 _ (List.mem_of_getElem? hat)
      have hlen := pref_len hpr
      have h0 : (rs.getD i [])[0]? = some (Su193.peak (rs.getD i [])) := by
        revert hlen
        generalize rs.getD i [] = r
        intro hlen
        cases r with
        | nil => simp at hlen; omega
        | cons x r => rfl
      exact ev_call (ea_cons (ev_var rfl) (ea_cons (ev_var rfl) ea_nil)) fun H4 e4 Q4 q4 E4 => ⟨qq, rs, i, rs.getD i [], _, rfl, LLN.mono e4 hl, hat, h0, q4⟩
    · rw [hrule]
      exact ex1 (r := (m.useRule fun t => Su193.peak (m.reported i t), Su193.ok 0 [])) ((if_neg (ready_not hr)).trans (if_neg (by omega)))
/-! ### use_plurality, use_borda -/
theorem getD_set (s : List Nat) (i v x : Nat) (hx : x < s.length) : (s.set i v).getD x 0 = if i = x then v else s.getD x 0 := by
  rw [List.getD_eq_getElem?_getD, List.getD_eq_getElem?_getD, List.getElem?_set]
  split
  · rename_i h
    subst h
    rw [if_pos hx]
    rfl
  · rfl
theorem plur_at {x : Nat} : ∀ (rs : List (List Nat)) (s : List Nat), x < s.length → (rs.foldl vote s).getD x 0 = s.getD x 0 + (rs.filter fun r => Su193.peak r == x).length
  | [], s, _ => rfl
  | r :: rs, s, hx => by
    rw [List.foldl_cons, plur_at rs (vote s r) (by unfold vote; rw [List.length_set]; exact hx)]
    unfold vote
    rw [getD_set _ _ _ _ hx, List.filter_cons]
    by_cases h : Su193.peak r = x
    · rw [if_pos h, if_pos (by rw [h]; exact beq_self_eq_true x), List.length_cons, h]
      omega
    · rw [if_neg h, if_neg (by simpa using h)]
theorem rule_plur (W : WF m) {t : List Nat} (ht : t ∈ m.profiles) : lowMost (plurS m.alternativeCount (m.agents.map fun i => m.reported i t)) = m.plurality t := by
  have hk := W.k2
  have hl := plurS_len m.alternativeCount (m.agents.map fun i => m.reported i t)
  rw [best_low (f := fun x => (m.agents.filter fun i => Su193.peak (m.reported i t) == x).length) (fun z => by rw [z] at hl; simp at hl; omega) (fun x hx => ?_), hl]
  · rfl
  · rw [hl] at hx
    unfold plurS
    rw [plur_at _ _ (by rw [List.length_replicate]; exact hx), List.filter_map, List.length_map, List.getD_eq_getElem?_getD, List.getElem?_replicate, if_pos hx]
    show _ = 0 + _
    rw [Nat.zero_add]
    rfl
theorem bone_at {r : List Nat} (nd : r.Nodup) {x : Nat} (hxr : x ∈ r) : ∀ (n : Nat) (s : List Nat), n ≤ r.length → x < s.length → ((List.range n).foldl (bstep r) s).getD x 0 = s.getD x 0 + if r.idxOf x < n then r.length - 1 - r.idxOf x else 0
  | 0, s, _, _ => by
    rw [if_neg (Nat.not_lt_zero _)]
    rfl
  | n + 1, s, hn, hx => by
    have hlen : x < ((List.range n).foldl (bstep r) s).length := by
      rw [bstep_len]
      exact hx
    have e : (List.range (n + 1)).foldl (bstep r) s = bstep r ((List.range n).foldl (bstep r) s) n := by
      rw [List.range_succ, List.foldl_append]
      rfl
    have eb : ∀ (z : List Nat) (j : Nat), bstep r z j = z.set (r.getD j 0) (z.getD (r.getD j 0) 0 + (r.length - 1 - j)) := fun _ _ => rfl
    rw [e, eb, getD_set _ _ _ _ hlen]
    have ih := bone_at nd hxr n s (by omega) hx
    have hlt := List.idxOf_lt_length_of_mem hxr
    by_cases h : r.getD n 0 = x
    · have hi : r.idxOf x = n := by
        have h2 := nd.idxOf_getElem n (by omega)
        have h3 := getD_at (l := r) (i := n) (by omega)
        rw [List.getElem?_eq_getElem (by omega)] at h3
        rw [Option.some.inj h3, h] at h2
        exact h2
      rw [if_pos h, h]
      rw [ih, if_neg (by omega), if_pos (by omega), hi]
      omega
    · have hi : r.idxOf x ≠ n := fun z => h (by
        have h3 := getD_at (l := r) (i := r.idxOf x) hlt
        rw [List.getElem?_eq_getElem hlt, List.getElem_idxOf] at h3
        rw [← z]
        exact (Option.some.inj h3).symm)
      rw [if_neg h]
      rw [ih]
      by_cases h4 : r.idxOf x < n
      · rw [if_pos h4, if_pos (by omega)]
      · rw [if_neg h4, if_neg (by omega)]
theorem bord_at {x : Nat} : ∀ (rs : List (List Nat)) (s : List Nat), x < s.length → (∀ r ∈ rs, r.Nodup ∧ x ∈ r) → (rs.foldl bone s).getD x 0 = s.getD x 0 + (rs.map fun r => r.length - 1 - r.idxOf x).sum
  | [], s, _, _ => rfl
  | r :: rs, s, hx, h => by
    have hr := h r (List.mem_cons_self ..)
    have hlt := List.idxOf_lt_length_of_mem hr.2
    have hb : (bone s r).getD x 0 = s.getD x 0 + (r.length - 1 - r.idxOf x) := by
      unfold bone
      rw [bone_at hr.1 hr.2 r.length s (Nat.le_refl _) hx, if_pos hlt]
    rw [List.foldl_cons, bord_at rs (bone s r) (by unfold bone; rw [bstep_len]; exact hx) (fun r hr => h r (List.mem_cons_of_mem _ hr)), hb, List.map_cons, List.sum_cons, Nat.add_assoc]
theorem rule_bord (W : WF m) {t : List Nat} (ht : t ∈ m.profiles) : lowMost (bordS m.alternativeCount (m.agents.map fun i => m.reported i t)) = m.borda t := by
  have hk := W.k2
  have hl := bordS_len m.alternativeCount (m.agents.map fun i => m.reported i t)
  rw [best_low (f := fun x => (m.agents.map fun i => m.alternativeCount - 1 - (m.reported i t).idxOf x).sum) (fun z => by rw [z] at hl; simp at hl; omega) (fun x hx => ?_), hl]
  · rfl
  · rw [hl] at hx
    have hp : ∀ i ∈ m.agents, Su193.isPreference m.alternativeCount (m.reported i t) = true := fun i hi => rep_pref W (prof_ok W ht) (List.mem_range.mp hi)
    unfold bordS
    rw [bord_at _ _ (by rw [List.length_replicate]; exact hx) (fun r hr => by
      obtain ⟨i, hi, rfl⟩ := List.mem_map.mp hr
      exact ⟨(pref_iff.mp (hp i hi)).2.1, pref_mem (hp i hi) hx⟩), List.map_map, List.getD_eq_getElem?_getD, List.getElem?_replicate, if_pos hx]
    show _ = 0 + _
    rw [Nat.zero_add]
    congr 1
    refine List.map_congr_left fun i hi => ?_
    show _ = (m.reported i t).length - 1 - _
    rw [pref_len (hp i hi)]
abbrev s_use_plurality : Stmt := topS 47
theorem sc_use_plurality : FnScope ["instance", "call", "reported"] ["instance", "call"] (C8.fnScope (topS 47)) := C8.fnScope_by (by decide +kernel)
def op_use_plurality (xs row : List Nat) : Su193.Operation := .usePlurality
theorem cal_use_plurality (T : Txt K mg) (m_reported_rankings : C8.Met P w K mg base 2 T.aI "reported_rankings" (sp_Instance_reported_rankings T.aI) []) (c_plurality : C8.Cal P w K mg base 2 "plurality" sp_plurality []) {f : Addr} {fd : FuncData} (F : C8.Def K mg "use_plurality" s_use_plurality f fd) (b : Binds K fd ["instance", "call"] []) : C8.Cal P w K mg base 3 "use_plurality" (sp_op T.aI T.aC true 0 op_use_plurality) [] := by
  refine C8.cal0 F b .nil sc_use_plurality (fun vs H Q E h => ?_) (fun cdv A outer s H vs Q E hr h => ⟨_, (pss_cons (ps_fld (pv 0) (pe_lc (own := [("reported", 2)]) (g := gName 2) (tt := tYes) rfl sc_use_plurality.nd (pi_list (C8.pe_mt0 m_reported_rankings hr (by decide) (pv 0))) (blkOk_by (own := [("reported", 2)]) (N := ["instance", "call", "reported"]) (sc := C8.fnScope (topS 47)) (by decide +kernel)) (fun _ _ _ _ _ => (pg_name (i := 2) sc_use_plurality.nd rfl (Or.inl rfl))) (fun _ _ _ _ _ => pts_nil) (fun _ _ _ _ _ => (C8.pe_c c_plurality hr (by decide) rfl (pa_cons (pv 2) pa_nil)))) rfl)
  (pss_one (ps_ret (pe_lst (pa_cons pe_int pa_nil))))), ?_⟩)
  · obtain ⟨X, a, D, O, c, m, p, xs, row, rfl, _⟩ := h
    rfl
  · obtain ⟨X, a, D, O, c, m, p, xs, row, rfl, hX, W, hC, hn, h8, hrd, q⟩ := h
    have hr := hrd rfl
    have hpl := profiles_len W
    have hk2 := W.k2
    have hk4 := W.k4
    have hn1 := W.n1
    have hrule : (reps m).map (fun rs => lowMost (plurS m.alternativeCount rs)) = m.profiles.map m.plurality := reps_map _ _ fun t ht => rule_plur W ht
    refine use_rule (CI := T.aI) (outs := (reps m).map fun rs => lowMost (plurS m.alternativeCount rs)) T hX q (Ex.refl H) ?_ (ev_var rfl) ?_
    · rw [nvs, List.map_map]
      refine el_lcRep (K := K) (nv ∘ fun rs => lowMost (plurS m.alternativeCount rs)) (ep_reps T W hX (ev_var rfl)) (by rw [reps_len]; omega) (fun x => rfl) fun j qq rs H3 e3 hrs hl => ?_
      obtain ⟨w1, w2⟩ := reps_ok W (List.mem_of_getElem? hrs)
      exact ev_call (ea_cons (ev_var rfl) ea_nil) fun H4 e4 Q4 q4 E4 => ⟨qq, rs, m.alternativeCount, rfl, LLN.mono e4 hl, fun z => by rw [z] at w1; simp at w1; omega, by omega, by omega, fun r hr => ⟨pref_len (w2 r hr), fun x hx => pref_lt (w2 r hr) hx⟩, q4⟩
    · rw [hrule]
      exact ex1 (r := (m.useRule m.plurality, Su193.ok 0 [])) (if_neg (ready_not hr))
abbrev s_use_borda : Stmt := topS 48
theorem sc_use_borda : FnScope ["instance", "call", "reported"] ["instance", "call"] (C8.fnScope (topS 48)) := C8.fnScope_by (by decide +kernel)
def op_use_borda (xs row : List Nat) : Su193.Operation := .useBorda
theorem cal_use_borda (T : Txt K mg) (m_reported_rankings : C8.Met P w K mg base 2 T.aI "reported_rankings" (sp_Instance_reported_rankings T.aI) []) (c_borda : C8.Cal P w K mg base 2 "borda" sp_borda []) {f : Addr} {fd : FuncData} (F : C8.Def K mg "use_borda" s_use_borda f fd) (b : Binds K fd ["instance", "call"] []) : C8.Cal P w K mg base 3 "use_borda" (sp_op T.aI T.aC true 0 op_use_borda) [] := by
  refine C8.cal0 F b .nil sc_use_borda (fun vs H Q E h => ?_) (fun cdv A outer s H vs Q E hr h => ⟨_, (pss_cons (ps_fld (pv 0) (pe_lc (own := [("reported", 2)]) (g := gName 2) (tt := tYes) rfl sc_use_borda.nd (pi_list (C8.pe_mt0 m_reported_rankings hr (by decide) (pv 0))) (blkOk_by (own := [("reported", 2)]) (N := ["instance", "call", "reported"]) (sc := C8.fnScope (topS 48)) (by decide +kernel)) (fun _ _ _ _ _ => (pg_name (i := 2) sc_use_borda.nd rfl (Or.inl rfl))) (fun _ _ _ _ _ => pts_nil) (fun _ _ _ _ _ => (C8.pe_c c_borda hr (by decide) rfl (pa_cons (pv 2) pa_nil)))) rfl)
  (pss_one (ps_ret (pe_lst (pa_cons pe_int pa_nil))))), ?_⟩)
  · obtain ⟨X, a, D, O, c, m, p, xs, row, rfl, _⟩ := h
    rfl
  · obtain ⟨X, a, D, O, c, m, p, xs, row, rfl, hX, W, hC, hn, h8, hrd, q⟩ := h
    have hr := hrd rfl
    have hpl := profiles_len W
    have hk2 := W.k2
    have hk4 := W.k4
    have hn1 := W.n1
    have hrule : (reps m).map (fun rs => lowMost (bordS m.alternativeCount rs)) = m.profiles.map m.borda := reps_map _ _ fun t ht => rule_bord W ht
    refine use_rule (CI := T.aI) (outs := (reps m).map fun rs => lowMost (bordS m.alternativeCount rs)) T hX q (Ex.refl H) ?_ (ev_var rfl) ?_
    · rw [nvs, List.map_map]
      refine el_lcRep (K := K) (nv ∘ fun rs => lowMost (bordS m.alternativeCount rs)) (ep_reps T W hX (ev_var rfl)) (by rw [reps_len]; omega) (fun x => rfl) fun j qq rs H3 e3 hrs hl => ?_
      obtain ⟨w1, w2⟩ := reps_ok W (List.mem_of_getElem? hrs)
      exact ev_call (ea_cons (ev_var rfl) ea_nil) fun H4 e4 Q4 q4 E4 => ⟨qq, rs, m.alternativeCount, rfl, LLN.mono e4 hl, fun z => by rw [z] at w1; simp at w1; omega, by omega, by omega, fun r hr => ⟨pref_len (w2 r hr), fun x hx => pref_lt (w2 r hr) hx⟩, q4⟩
    · rw [hrule]
      exact ex1 (r := (m.useRule m.borda, Su193.ok 0 [])) (if_neg (ready_not hr))
/-! ### use_sequential_majority -/
theorem rule_seq (ag t : List Nat) : seqMaj (m.agents.map fun i => m.reported i t) ag = m.sequentialMajority ag t := by
  unfold seqMaj SocialChoice.sequentialMajority
  congr 1
  funext b x
  unfold seqM
  rw [List.filter_map, List.length_map, List.length_map]
  have hl : m.agents.length = m.agentCount := List.length_range
  rw [hl]
  rfl
abbrev s_use_sequential_majority : Stmt := topS 49
theorem sc_use_sequential_majority : FnScope ["instance", "call", "agenda", "reported"] ["instance", "call"] (C8.fnScope (topS 49)) := C8.fnScope_by (by decide +kernel)
def op_use_sequential_majority (xs row : List Nat) : Su193.Operation := .useSequentialMajority row
theorem cal_use_sequential_majority (T : Txt K mg) (m_reported_rankings : C8.Met P w K mg base 2 T.aI "reported_rankings" (sp_Instance_reported_rankings T.aI) []) (c_sequential_majority : C8.Cal P w K mg base 2 "sequential_majority" sp_sequential_majority []) (c_is_ranking : C8.Cal P w K mg base 1 "is_ranking" sp_is_ranking []) {f : Addr} {fd : FuncData} (F : C8.Def K mg "use_sequential_majority" s_use_sequential_majority f fd) (b : Binds K fd ["instance", "call"] []) : C8.Cal P w K mg base 3 "use_sequential_majority" (sp_op T.aI T.aC true 0 op_use_sequential_majority) [] := by
  refine C8.cal0 F b .nil sc_use_sequential_majority (fun vs H Q E h => ?_) (fun cdv A outer s H vs Q E hr h => ⟨_, (pss_cons (ps_set (i := 2) sc_use_sequential_majority.nd rfl (Or.inr rfl) (pe_fld (pv 1) rfl))
  (pss_cons (ps_if (pt_not (pt_val (C8.pe_c c_is_ranking hr (by decide) rfl (pa_cons (pv 2) (pa_cons (pe_fld (pv 0) rfl) pa_nil)))))
  (pss_one (ps_ret (pe_lst (pa_cons (C8.pe_gc rfl T.g_INVALID) pa_nil))))
  pss_nil)
  (pss_cons (ps_fld (pv 0) (pe_lc (own := [("reported", 3)]) (g := gName 3) (tt := tYes) rfl sc_use_sequential_majority.nd (pi_list (C8.pe_mt0 m_reported_rankings hr (by decide) (pv 0))) (blkOk_by (own := [("reported", 3)]) (N := ["instance", "call", "agenda", "reported"]) (sc := C8.fnScope (topS 49)) (by decide +kernel)) (fun _ _ _ _ _ => (pg_name (i := 3) sc_use_sequential_majority.nd rfl (Or.inl rfl))) (fun _ _ _ _ _ => pts_nil) (fun _ _ _ _ _ => (C8.pe_c c_sequential_majority hr (by decide) rfl (pa_cons (pv 3) (pa_cons (pv 2) pa_nil))))) rfl)
  (pss_one (ps_ret (pe_lst (pa_cons pe_int pa_nil))))))), ?_⟩)
  · obtain ⟨X, a, D, O, c, m, p, xs, row, rfl, _⟩ := h
    rfl
  · obtain ⟨X, a, D, O, c, m, p, xs, row, rfl, hX, W, hC, hn, h8, hrd, q⟩ := h
    obtain ⟨dx, ln, lr, c1, c2, c3⟩ := hC.mono (but_ex H _)
    have hr := hrd rfl
    have hpl := profiles_len W
    have hk2 := W.k2
    have hk4 := W.k4
    have hn3 := W.n3
    refine q_asg (v := .ref lr) (ev_row T rfl c1) fun H1 e1 => ?_
    have hX1 := hX.mono e1
    refine q_when (b := !Su193.isPreference m.alternativeCount row) (et_not (et_B (ev_call (ea_cons (ev_var rfl) (ea_cons (ev_k T hX1.inst (ev_var rfl)) ea_nil)) fun H3 e3 Q3 q3 E3 => ⟨lr, row, m.alternativeCount, rfl, (e1.trans e3) lr _ c3, by omega, by omega, q3⟩))) (fun hb2 H2 e2 => ?_) (fun hb2 H2 e2 => ?_)
    · have hb' : Su193.isPreference m.alternativeCount row = false := by simpa using hb2
      exact ro_ret hX q (e1.trans e2) el_code (ex1 (r := (m, Su193.error (-22))) ((if_neg (ready_not hr)).trans (if_pos hb'))) rfl
    have hpr : Su193.isPreference m.alternativeCount row = true := by simpa using hb2
    have hX2 := hX1.mono e2
    have E2 := e1.trans e2
    have hrule : (reps m).map (fun rs => seqMaj rs row) = m.profiles.map (m.sequentialMajority row) := reps_map _ _ fun t ht => rule_seq row t
    refine use_rule (CI := T.aI) (outs := (reps m).map fun rs => seqMaj rs row) T hX q E2 ?_ (ev_var rfl) ?_
    · rw [nvs, List.map_map]
      refine el_lcRep (K := K) (nv ∘ fun rs => seqMaj rs row) (ep_reps T W hX2 (ev_var rfl)) (by rw [reps_len]; omega) (fun x => rfl) fun j qq rs H3 e3 hrs hl => ?_
      obtain ⟨w1, w2⟩ := reps_ok W (List.mem_of_getElem? hrs)
      have hrl := pref_len hpr
      exact ev_call (ea_cons (ev_var rfl) (ea_cons (ev_var rfl) ea_nil)) fun H4 e4 Q4 q4 E4 => ⟨qq, lr, rs, row, rfl, LLN.mono e4 hl, ((E2.trans e3).trans e4) lr _ c3, fun z => by rw [z] at hrl; simp at hrl; omega, by omega, by omega, fun r hr x hx => pref_mem (w2 r hr) (pref_lt hpr hx), q4⟩
    · rw [hrule]
      exact ex1 (r := (m.useRule (m.sequentialMajority row), Su193.ok 0 [])) ((if_neg (ready_not hr)).trans (if_neg (by rw [hpr]; decide)))
/-! ### use_generalized_median -/
theorem rule_med (ph t : List Nat) : (Su193.sort ((m.agents.map fun i => m.reported i t).map Su193.peak ++ ph)).getD ((m.agents.map fun i => m.reported i t).length - 1) 0 = m.generalizedMedian ph t := by
  unfold SocialChoice.generalizedMedian
  rw [List.map_map, List.length_map]
  have hl : m.agents.length = m.agentCount := List.length_range
  rw [hl]
  rfl
abbrev s_use_generalized_median : Stmt := topS 46
theorem sc_use_generalized_median : FnScope ["instance", "call", "phantoms", "phantom", "reported"] ["instance", "call"] (C8.fnScope (topS 46)) := C8.fnScope_by (by decide +kernel)
def op_use_generalized_median (xs row : List Nat) : Su193.Operation := .useGeneralizedMedian row
theorem cal_use_generalized_median (T : Txt K mg) (m_reported_rankings : C8.Met P w K mg base 2 T.aI "reported_rankings" (sp_Instance_reported_rankings T.aI) []) (c_generalized_median : C8.Cal P w K mg base 1 "generalized_median" sp_generalized_median []) (m_has_alternative : C8.Met P w K mg base 1 T.aI "has_alternative" (sp_Instance_has_alternative T.aI) []) {f : Addr} {fd : FuncData} (F : C8.Def K mg "use_generalized_median" s_use_generalized_median f fd) (b : Binds K fd ["instance", "call"] []) : C8.Cal P w K mg base 3 "use_generalized_median" (sp_op T.aI T.aC true 0 op_use_generalized_median) [] := by
  refine C8.cal0 F b .nil sc_use_generalized_median (fun vs H Q E h => ?_) (fun cdv A outer s H vs Q E hr h => ⟨_, (pss_cons (ps_set (i := 2) sc_use_generalized_median.nd rfl (Or.inr rfl) (pe_fld (pv 1) rfl))
  (pss_cons (ps_if (pt_cmpR op_ne (pe_callB call_len_seq (by rfl) T.len PySem.boot_len (pa_cons (pv 2) pa_nil)) (pe_op op_sub (pe_fld (pv 0) rfl) pe_int) (nomark _))
  (pss_one (ps_ret (pe_lst (pa_cons (C8.pe_gc rfl T.g_INVALID) pa_nil))))
  pss_nil)
  (pss_cons (ps_if (pt_not (pt_val (pe_callB (cr_all rfl) (by rfl) T.all (by decide +kernel) (pa_cons (pe_lc (own := [("phantom", 3)]) (g := gName 3) (tt := tYes) rfl sc_use_generalized_median.nd (pi_list (pv 2)) (blkOk_by (own := [("phantom", 3)]) (N := ["instance", "call", "phantoms", "phantom", "reported"]) (sc := C8.fnScope (topS 46)) (by decide +kernel)) (fun _ _ _ _ _ => (pg_name (i := 3) sc_use_generalized_median.nd rfl (Or.inl rfl))) (fun _ _ _ _ _ => pts_nil) (fun _ _ _ _ _ => (C8.pe_mt m_has_alternative hr (by decide) (pv 0) (pa_cons (pv 3) pa_nil)))) pa_nil))))
  (pss_one (ps_ret (pe_lst (pa_cons (C8.pe_gc rfl T.g_INVALID) pa_nil))))
  pss_nil)
  (pss_cons (ps_fld (pv 0) (pe_lc (own := [("reported", 4)]) (g := gName 4) (tt := tYes) rfl sc_use_generalized_median.nd (pi_list (C8.pe_mt0 m_reported_rankings hr (by decide) (pv 0))) (blkOk_by (own := [("reported", 4)]) (N := ["instance", "call", "phantoms", "phantom", "reported"]) (sc := C8.fnScope (topS 46)) (by decide +kernel)) (fun _ _ _ _ _ => (pg_name (i := 4) sc_use_generalized_median.nd rfl (Or.inl rfl))) (fun _ _ _ _ _ => pts_nil) (fun _ _ _ _ _ => (C8.pe_c c_generalized_median hr (by decide) rfl (pa_cons (pv 4) (pa_cons (pv 2) pa_nil))))) rfl)
  (pss_one (ps_ret (pe_lst (pa_cons pe_int pa_nil)))))))), ?_⟩)
  · obtain ⟨X, a, D, O, c, m, p, xs, row, rfl, _⟩ := h
    rfl
  · obtain ⟨X, a, D, O, c, m, p, xs, row, rfl, hX, W, hC, hn, h8, hrd, q⟩ := h
    obtain ⟨dx, ln, lr, c1, c2, c3⟩ := hC.mono (but_ex H _)
    have hr := hrd rfl
    have hpl := profiles_len W
    have hk2 := W.k2
    have hk4 := W.k4
    have hn1 := W.n1
    have hn3 := W.n3
    refine q_asg (v := .ref lr) (ev_row T rfl c1) fun H1 e1 => ?_
    have hX1 := hX.mono e1
    refine q_when (b := !decide (row.length = m.agentCount - 1)) (et_test (ev_ne (ev_is (ev_len (ev_var rfl) (sq_of (e1 lr _ c3))) (by show V.int _ = V.int _; rw [List.length_map])) (ev_sub (b := 1) (ev_n T hX1.inst (ev_var rfl)) ev_c hn1))) (fun hb H2 e2 => ?_) (fun hb H2 e2 => ?_)
    · have hne : row.length ≠ m.agentCount - 1 := by simpa using hb
      exact ro_ret hX q (e1.trans e2) el_code (ex1 (r := (m, Su193.error (-22))) ((if_neg (ready_not hr)).trans (if_pos (.inl (by omega))))) rfl
    have heq : row.length = m.agentCount - 1 := by simpa using hb
    have hX2 := hX1.mono e2
    have E2 := e1.trans e2
    refine q_when (b := !(row.map fun x => decide (x < m.alternativeCount)).all id) (et_not (et_B (ev_all ?_))) (fun hb2 H3 e3 => ?_) (fun hb2 H3 e3 => ?_)
    · rw [List.map_map]
      refine el_lcDm (K := K) (xs := nvs row) (ds := row) (fun x => V.bl (decide (x < m.alternativeCount))) (ev_var rfl) (sq_of (E2 lr _ c3)) (by rw [List.length_map]) (by omega) (fun x => rfl) fun j x' x H4 e4 hx' hx => ?_
      obtain ⟨x2, hx2, rfl⟩ := nvs_get hx'
      rw [hx] at hx2
      have e7 := Option.some.inj hx2
      subst e7
      exact ev_im T (hX2.inst.mono e4) (ev_var rfl) (ea_cons (ev_var rfl) ea_nil) fun H5 e5 Q5 q5 E5 => ⟨a, D, O, m, x, rfl, (hX2.inst.mono e4).mono e5, q5⟩
    · have hany : row.any (fun x => decide (m.alternativeCount ≤ x)) = true := by
        rw [Bool.not_eq_true', List.all_eq_false] at hb2
        obtain ⟨b, hb3, hb4⟩ := hb2
        obtain ⟨x, hx, rfl⟩ := List.mem_map.mp hb3
        rw [List.any_eq_true]
        exact ⟨x, hx, decide_eq_true (by simpa using hb4)⟩
      exact ro_ret hX q (E2.trans e3) el_code (ex1 (r := (m, Su193.error (-22))) ((if_neg (ready_not hr)).trans (if_pos (.inr hany)))) rfl
    have hall : ¬ row.any (fun x => decide (m.alternativeCount ≤ x)) = true := by
      intro h
      rw [List.any_eq_true] at h
      obtain ⟨x, hx, h2⟩ := h
      rw [Bool.not_eq_false', List.all_eq_true] at hb2
      have h3 := hb2 _ (List.mem_map.mpr ⟨x, hx, rfl⟩)
      have h4 := of_decide_eq_true h2
      have h5 := of_decide_eq_true h3
      omega
    have hX3 := hX2.mono e3
    have E3 := E2.trans e3
    have hrule : (reps m).map (fun rs => (Su193.sort (rs.map Su193.peak ++ row)).getD (rs.length - 1) 0) = m.profiles.map (m.generalizedMedian row) := reps_map _ _ fun t ht => rule_med row t
    refine use_rule (CI := T.aI) (outs := (reps m).map fun rs => (Su193.sort (rs.map Su193.peak ++ row)).getD (rs.length - 1) 0) T hX q E3 ?_ (ev_var rfl) ?_
    · rw [nvs, List.map_map]
      refine el_lcRep (K := K) (nv ∘ fun rs => (Su193.sort (rs.map Su193.peak ++ row)).getD (rs.length - 1) 0) (ep_reps T W hX3 (ev_var rfl)) (by rw [reps_len]; omega) (fun x => rfl) fun j qq rs H4 e4 hrs hl => ?_
      obtain ⟨w1, w2⟩ := reps_ok W (List.mem_of_getElem? hrs)
      exact ev_call (ea_cons (ev_var rfl) (ea_cons (ev_var rfl) ea_nil)) fun H5 e5 Q5 q5 E5 => ⟨qq, lr, rs, row, rfl, LLN.mono e5 hl, ((E3.trans e4).trans e5) lr _ c3, fun r hr z => by have h9 := pref_len (w2 r hr); rw [z] at h9; simp at h9; omega, by omega, by omega, q5⟩
    · rw [hrule]
      exact ex1 (r := (m.useRule (m.generalizedMedian row), Su193.ok 0 [])) ((if_neg (ready_not hr)).trans (if_neg (by intro h; rcases h with h | h; omega; exact hall h)))
end
end Tc
namespace Tc
open PySem PySem.Spec PyProof.Rows L2 Evl
open Su193 (SocialChoice)
/-! ## A def out of a written dict, by an int -/
def OpIs (K : PySem.W.Frag) (D : Addr) (k : Int) (v : Addr) : Prop := ∃ (es : Array DictEntry) (n : Nat), K.lookup D = some ⟨.type "dict", none, .dict es n, #[]⟩ ∧ (∀ e ∈ es, ∃ (i : Int) (t : Tok), e.key = .int i t ∧ e.hash = hashInt i) ∧ findBy Value.isInt es k = some (.ref v)
def rIxO (K : PySem.W.Frag) : R2 := fun x y H Q => ∃ (D : Addr) (k : Int) (f : Addr), x = .ref D ∧ y = .int k ∧ OpIs K D k f ∧ Q (.ref f) H
section
variable {X : Cx}
theorem ix_ops : IxR X (rIxO X.K) := by
  intro value slice pins s σ H x y v u Q I rx ry h hs
  obtain ⟨D, k, f, rfl, rfl, ⟨es, n, hl, hk, e⟩, q⟩ := h
  obtain rfl : v = Value.ref D := rx
  obtain ⟨t, rfl⟩ := ry
  have hm : s.heap.MapOf (intKind X.prog X.w) D (fun k => findBy Value.isInt es k) := ⟨_, es, n, I.kIn _ _ hl, ⟨rfl, rfl, rfl⟩, rfl, fun e he => by
    obtain ⟨i, t, e1, e2⟩ := hk e he
    exact ⟨i, by rw [e1]; simp [intKind, Value.isInt], e2⟩, fun _ => rfl⟩
  exact tail_any hm.typeIs slot_dict_getitem.lookup (wpAny_getItem_of (by simp [intKind, Value.isInt]) hm e ⟨.ref f, H, I.tok _, rfl, q⟩) hs
def tOps (P : Program) (w : World) (K : PySem.W.Frag) (mg : Str → Option Value) (base : Heap) (j : Nat) (tf : TE) (t : TA) : TE := fun σ H Q => tf σ H fun v H1 => ∃ (f : Addr) (sp : Sp) (k : Nat), v = .ref f ∧ k ≤ j ∧ C8.CalAt P w K mg base k f sp ∧ t σ H1 fun vs H2 => sp vs H2 Q C8.E0
theorem pe_ops {fe e : Expr} {es : List Expr} {tf : TE} {t : TA} {j : Nat} {pos : Pos} (hr : Room j X.A) (hf : PE X fe tf) (ha : PA X (e :: es) t)
    (ht : eval (.Call fe (e :: es) [] pos) X.env = (do callWith pos (← eval fe X.env) [] (backTo pos (starEach (e :: es) X.env)) (backToKw pos (keywordEach [] X.env))) := by rfl)
    (he : starEach (e :: es) X.env = (false, eval e X.env) :: starEach es X.env := by rfl) (hpl : (backTo pos (starEach es X.env)).any (·.1) = false := by rfl) : PE X (.Call fe (e :: es) [] pos) (tOps X.prog X.w X.K X.mg X.base j tf t) := by
  refine ⟨fun pins s σ H Q I h => ?_⟩
  refine Call_ (thn (hf.run pins s σ H _ I h) fun u s1 ⟨y, H1, I1, ry, f, sp, k, ey, hk, c, q⟩ => ?_) ht
  subst ey
  obtain rfl : u = Value.ref f := ry
  obtain ⟨fd, ps, F, kp, b⟩ := c.ex
  refine PySem.W.callWith_K (h₀ := X.base) I.ok.mod.kin kp (thn (ha.run pos pins s1 σ _ _ I1 q) fun us s2 ⟨vs, H2, I2, r, q2⟩ => ⟨I2.kIn, ?_⟩) he hpl
  exact run_fn F (hr.mono hk) b .nil C8.pass0 I2 r (by rw [List.append_nil]; exact q2)
end
section
variable {P : Program} {w : World} {K : PySem.W.Frag} {mg : Str → Option Value} {base : Heap} {σ : L2.St} {H H' H1 : Hp} {ta tb te tv tl : TE} {a D O : Addr} {m : SocialChoice} {v : V} {Ds : Ends} {tu tz : TS} {g : TG} {tas : TA}
/-! ## perform -/
/-- the operation of a number: whether it wants a ready instance, how many numbers it passes, what it is -/
def opOf : Nat → Bool × Nat × (List Nat → List Nat → Su193.Operation)
  | 1 => (false, 1, op_add_preference)
  | 2 => (false, 1, op_set_full_domain)
  | 3 => (true, 1, op_set_outcome)
  | 4 => (true, 1, op_use_dictatorship)
  | 5 => (true, 0, op_use_generalized_median)
  | 6 => (true, 0, op_use_plurality)
  | 7 => (true, 0, op_use_borda)
  | 8 => (true, 0, op_use_sequential_majority)
  | 9 => (true, 0, op_outcome)
  | 10 => (true, 1, op_option_set)
  | 11 => (true, 0, op_find_manipulation)
  | 12 => (true, 1, op_count_manipulations)
  | 13 => (true, 0, op_outcome_range)
  | 14 => (true, 0, op_dictators)
  | 15 => (true, 0, op_monotonicity_violation)
  | 16 => (true, 0, op_inefficient_profile)
  | 17 => (false, 1, op_is_single_peaked)
  | _ => (false, 0, op_describe)
def Ops (P : Program) (w : World) (K : PySem.W.Frag) (mg : Str → Option Value) (base : Heap) (CI CC aD : Addr) : Prop := ∀ p : Nat, 1 ≤ p → p ≤ 18 → ∃ (f : Addr) (k : Nat), k ≤ 5 ∧ OpIs K aD (p : Int) f ∧ C8.CalAt P w K mg base k f (sp_op CI CC (opOf p).1 (opOf p).2.1 (opOf p).2.2)
def sp_perform (CI CC : Addr) : Sp := fun vs H Q _ => ∃ (X : List Addr) (a D O c : Addr) (m : SocialChoice) (p : Nat) (xs row : List Nat), vs = [.ref a, .ref c] ∧ InstX CI X H a D O m ∧ WF m ∧ CallAt CC (but H (a :: D :: O :: X)) c p xs row ∧
  1 ≤ p ∧ p ≤ 18 ∧ xs.length = (opOf p).2.1 ∧ row.length ≤ 8 ∧ Done CI X H a D O m ((opOf p).2.2 xs row) Q
theorem exec_unready {p : Nat} (h3 : 3 ≤ p) (h16 : p ≤ 16) (hr : m.isReady = false) (xs row : List Nat) : exec m ((opOf p).2.2 xs row) = (m, [-16]) := by
  have hc : p = 3 ∨ p = 4 ∨ p = 5 ∨ p = 6 ∨ p = 7 ∨ p = 8 ∨ p = 9 ∨ p = 10 ∨ p = 11 ∨ p = 12 ∨ p = 13 ∨ p = 14 ∨ p = 15 ∨ p = 16 := by omega
  rcases hc with h | h | h | h | h | h | h | h | h | h | h | h | h | h <;> (subst h; exact ex1 (r := (m, Su193.error (-16))) (if_pos hr))
theorem ready_in {p : Nat} (hp : ¬ (3 ≤ p ∧ p ≤ 16)) (h1 : 1 ≤ p) (h18 : p ≤ 18) : (opOf p).1 = false := by
  have hc : p = 1 ∨ p = 2 ∨ p = 17 ∨ p = 18 := by omega
  rcases hc with h | h | h | h <;> (subst h; rfl)
theorem rv_ops {D f : Addr} {k : Int} (h : OpIs K D k f) : RV (rIxO K) (.ref D) (.int k) H (.ref f) := fun H1 e Q q => ⟨D, k, f, rfl, rfl, h, q H1 (Ex.refl H1)⟩
theorem ev_le {i j : Int} (ha : Ev ta σ H (.int i)) (hb : Ev tb σ H (.int j)) : Ev (tOp (rI0 fun i j => .bl (decide (i ≤ j))) ta tb) σ H (.bl (decide (i ≤ j))) := ev_op ha hb rv_I0
theorem ev_chain {r r' : R2} {tc : TE} {x y z : V} {p q : Bool} (ha : Ev ta σ H x) (hb : Ev tb σ H y) (h1 : RV r x y H (.bl p)) (hc : Ev tc σ H z) (h2 : RV r' y z H (.bl q)) : Ev (tChain r r' ta tb tc) σ H (.bl (p && q)) := fun H1 e Q k =>
  ha H1 e _ fun H2 e2 => hb H2 (e.trans e2) _ fun H3 e3 => h1 H3 ((e.trans e2).trans e3) _ fun H4 e4 => ⟨p, rfl, by
    cases p with
    | true =>
      exact hc H4 (((e.trans e2).trans e3).trans e4) _ fun H5 e5 => h2 H5 ((((e.trans e2).trans e3).trans e4).trans e5) Q fun H6 e6 => k H6 ((((e2.trans e3).trans e4).trans e5).trans e6)
    | false => exact k H4 ((e2.trans e3).trans e4)⟩
/-- lo <= x <= hi -/
theorem ev_mid {tc : TE} {x lo hi : Nat} (ha : Ev ta σ H (.int lo)) (hb : Ev tb σ H (nv x)) (hc : Ev tc σ H (.int hi)) : Ev (tChain (rI0 fun i j => .bl (decide (i ≤ j))) (rI0 fun i j => .bl (decide (i ≤ j))) ta tb tc) σ H (.bl (decide (lo ≤ x) && decide (x ≤ hi))) := by
  refine ev_is (ev_chain ha hb rv_I0 hc rv_I0) ?_
  show V.bl (decide ((lo : Int) ≤ (x : Int)) && decide ((x : Int) ≤ (hi : Int))) = _
  rw [decide_eq_decide.mpr (Int.ofNat_le (m := lo) (n := x)), decide_eq_decide.mpr (Int.ofNat_le (m := x) (n := hi))]
theorem ev_fldI {C dx c : Addr} {fs : List (Str × V)} (T : Txt K mg) {p : Nat} {ln lr : Addr} {i : Nat} (hσ : σ[i]? = some (some (.ref c))) (h1 : H c = some (.ins T.aC dx (cF p ln lr))) : Ev (tFld K (tVar i) "number") σ H (nv p) := ev_fld (ev_var hσ) h1 T.cC T.nC_number rfl
theorem Done.mono {CI : Addr} {X : List Addr} {op : Su193.Operation} {Q : VK} (e : Ex H H1) (h : Done CI X H a D O m op Q) : Done CI X H1 a D O m op Q := fun H' O' r h1 h2 h3 h4 h5 =>
  h H' O' r (h1.imp id (fresh_back (but_mono e))) ((but_mono e).trans h2) h3 (fresh_back (but_mono e) h4) h5
abbrev s_perform : Stmt := topS 62
theorem sc_perform : FnScope ["instance", "call"] ["instance", "call"] (C8.fnScope (topS 62)) := C8.fnScope_by (by decide +kernel)
theorem cal_perform (T : Txt K mg) (cOps : Ops P w K mg base T.aI T.aC T.aD) (m_is_ready : C8.Met P w K mg base 1 T.aI "is_ready" (sp_Instance_is_ready T.aI) []) {f : Addr} {fd : FuncData} (F : C8.Def K mg "perform" s_perform f fd) (b : Binds K fd ["instance", "call"] []) : C8.Cal P w K mg base 6 "perform" (sp_perform T.aI T.aC) [] := by
  refine C8.cal0 F b .nil sc_perform (fun vs H Q E h => ?_) (fun cdv A outer s H vs Q E hr h => ⟨_, (pss_cons (ps_if (PW.pt (pw_and (pt_chain op_le op_le (C8.pe_gc rfl T.g_FIRST_THAT_NEEDS_READY) (pe_fld (pv 1) rfl) (C8.pe_gc rfl T.g_LAST_THAT_NEEDS_READY)) (pw_and1 (pt_not (pt_val (C8.pe_mt0 m_is_ready hr (by decide) (pv 0)))))))
  (pss_one (ps_ret (pe_lst (pa_cons (C8.pe_gc rfl T.g_NOT_READY) pa_nil))))
  pss_nil)
  (pss_one (ps_ret (pe_ops hr (pe_ix ix_ops (C8.pe_gc rfl T.g_OPERATIONS) (pe_fld (pv 1) rfl) (fun _ _ => rfl)) (pa_cons (pv 0) (pa_cons (pv 1) pa_nil)))))), ?_⟩)
  · obtain ⟨X, a, D, O, c, m, p, xs, row, rfl, _⟩ := h
    rfl
  · obtain ⟨X, a, D, O, c, m, p, xs, row, rfl, hX, W, hC, h1, h18, hn, h8, q⟩ := h
    obtain ⟨dx, ln, lr, c1, c2, c3⟩ := hC.mono (but_ex H _)
    have hI := hX.inst
    refine q_when (b := (decide (3 ≤ p) && decide (p ≤ 16)) && !m.isReady) (et_and (et_test (ev_mid ev_c (ev_fld (ev_var rfl) c1 T.cC T.nC_number rfl) ev_c)) fun _ => et_not (et_B (ev_im T hI (ev_var rfl) ea_nil fun H2 e2 Q2 q2 E2 => ⟨a, D, O, m, rfl, hI.mono e2, q2⟩))) (fun hb H1 e1 => ?_) (fun hb H1 e1 => ?_)
    · have hb2 : (3 ≤ p ∧ p ≤ 16) ∧ m.isReady = false := by simpa using hb
      exact ro_ret hX q e1 el_code (exec_unready hb2.1.1 hb2.1.2 hb2.2 xs row) rfl
    · obtain ⟨f, k, hk, ho, hc⟩ := cOps p h1 h18
      have hrd : (opOf p).1 = true → m.isReady = true := fun z => by
        cases hmr : m.isReady with
        | true => rfl
        | false =>
          rw [hmr] at hb
          have hnn : ¬ (3 ≤ p ∧ p ≤ 16) := by simpa using hb
          rw [ready_in hnn h1 h18] at z
          cases z
      show tOp (rIxO K) (tC (.ref T.aD)) (tFld K (tVar 1) "number") _ H1 _
      refine ev_op ev_c (ev_fld (ev_var rfl) c1 T.cC T.nC_number rfl) (rv_ops ho) H1 e1 _ fun H2 e2 => ⟨f, _, k, rfl, hk, hc, ?_⟩
      refine (ea_cons (ev_var rfl) (ea_cons (ev_var rfl) ea_nil) : EvA _ _ H2 [.ref a, .ref c]) H2 (Ex.refl H2) _ fun H3 e3 => ?_
      have E3 := (e1.trans e2).trans e3
      exact ⟨X, a, D, O, c, m, p, xs, row, rfl, hX.mono E3, W, hC.mono (but_mono E3), hn, h8, hrd, q.mono E3⟩
end
end Tc
namespace Tc
open PySem PySem.Spec PyProof.Rows L2 Evl
open Su193 (SocialChoice)
section
variable {P : Program} {w : World} {K : PySem.W.Frag} {mg : Str → Option Value} {base : Heap} {σ : L2.St} {H H' H1 Hc : Hp} {ta tb te tv tl : TE} {a D O : Addr} {m : SocialChoice} {v : V} {Ds : Ends} {tu tz : TS} {g : TG} {tas : TA}
/-! ## The session -/
/-- the session at s, apart from what Hc tells; X: what must stay apart from the instance -/
structure Sess (CI CS : Addr) (X : List Addr) (Hc H : Hp) (s : Addr) (st : Option SocialChoice) : Prop where
  ex : Ex Hc H
  sX : s ∈ X
  cX : ∀ x ∈ X, Hc x = none
  hX : ∀ x ∈ X, H x ≠ none
  at_ : ∃ dx, (st = none ∧ H s = some (.ins CS dx (seF .non))) ∨ ∃ m a D O, st = some m ∧ H s = some (.ins CS dx (seF (.ref a))) ∧ InstX CI X H a D O m ∧ WF m ∧ Hc a = none ∧ Hc D = none ∧ Hc O = none
theorem Sess.mono {CI CS s : Addr} {X : List Addr} {st : Option SocialChoice} (e : Ex H H') (S : Sess CI CS X Hc H s st) : Sess CI CS X Hc H' s st := by
  obtain ⟨h1, h2, h3, h4, dx, h5⟩ := S
  refine ⟨h1.trans e, h2, h3, fun x hx hn => h4 x hx (fresh_back e hn), dx, ?_⟩
  rcases h5 with ⟨h6, h7⟩ | ⟨m, a, D, O, h6, h7, h8, h9, h10, h11, h12⟩
  · exact .inl ⟨h6, e s _ h7⟩
  · exact .inr ⟨m, a, D, O, h6, e s _ h7, h8.mono e, h9, h10, h11, h12⟩
/-- what X holds, the session aside, stays -/
def KeepX (X : List Addr) (s : Addr) (H H' : Hp) : Prop := ∀ x ∈ X, x ≠ s → ∀ o, H x = some o → H' x = some o
def stepS (st : Option SocialChoice) (op : Su193.Operation) : Option SocialChoice × List Int := ((Su193.step st op).1, (Su193.step st op).2.value :: Su193Neutral.outs (Su193.step st op).2.fields)
/-- an operation carried out -/
def DoneS (CI CS : Addr) (X : List Addr) (Hc H : Hp) (s : Addr) (st : Option SocialChoice) (op : Su193.Operation) (Q : VK) : Prop :=
  ∀ (H' : Hp) (r : Addr), Sess CI CS X Hc H' s (stepS st op).1 → KeepX X s H H' → r ∉ X → Hc r = none → H' r = some (.lst ((stepS st op).2.map V.int)) → Q (.ref r) H'
theorem DoneS.mono {CI CS s : Addr} {X : List Addr} {st : Option SocialChoice} {op : Su193.Operation} {Q : VK} (e : Ex H H1) (d : DoneS CI CS X Hc H s st op Q) : DoneS CI CS X Hc H1 s st op Q := fun H' r h1 h2 h3 h4 h5 =>
  d H' r h1 (fun x hx hn o ho => h2 x hx hn o (e x o ho)) h3 h4 h5
theorem ro_retS {CI CS s : Addr} {X : List Addr} {st : Option SocialChoice} {op : Su193.Operation} {Q : VK} {xs : List V} {ans : List Int} (S : Sess CI CS X Hc H s st) (hd : DoneS CI CS X Hc H s st op Q) (e : Ex H H1) (h : EvL te σ H1 xs) (he : stepS st op = (st, ans)) (hx : xs = ans.map V.int) (hD : Ds.rt = Q := by rfl) : tRet te Ds σ H1 :=
  s_retL h fun r H2 hr e2 hl => by
    subst hD
    refine hd H2 r ?_ (fun x _ _ o ho => (e.trans e2) x o ho) (fun z => S.hX r z (fresh_back e hr)) (fresh_back S.ex (fresh_back e hr)) ?_
    · rw [he]
      exact S.mono (e.trans e2)
    · rw [he, hl, hx]
theorem ba_num (T : Txt K mg) {c dx ln lr : Addr} {p : Nat} {xs : List Nat} {i : Nat} (hi : i < xs.length) (hσ : σ[1]? = some (some (.ref c))) (h1 : H c = some (.ins T.aC dx (cF p ln lr))) (h2 : H ln = some (.lst (nvs xs))) : Ev (tOp (rIxL K) (tFld K (tVar 1) "numbers") (tC (.int (i : Int)))) σ H (nv (xs.getD i 0)) :=
  ev_ix (i := i) (ev_fld (ev_var hσ) h1 T.cC T.nC_numbers rfl) ev_c (sq_of h2) (nvs_at (getD_at hi))
/-! ### create -/
theorem wf_create {n k : Nat} (h1 : 1 ≤ n) (h2 : n ≤ 3) (h3 : 2 ≤ k) (h4 : k ≤ 4) : WF (Su193.create n k) := by
  refine ⟨h1, h2, h3, h4, List.length_replicate .., fun d hd => ?_, fun d hd r hr => ?_, ?_, fun x hx => by cases hx⟩
  · rw [List.eq_of_mem_replicate hd]
    exact Nat.zero_le _
  · rw [List.eq_of_mem_replicate hd] at hr
    cases hr
  · cases n with
    | zero => omega
    | succ n =>
      show 0 = (Su193.enumerateProfiles ((List.replicate (n + 1) ([] : List (List Nat))).map List.length)).length
      rw [List.replicate_succ]
      rfl
abbrev s_Session_create : Stmt := inClass (topS 65) 2
theorem sc_Session_create : FnScope ["self", "agent_count", "alternative_count"] ["self", "agent_count", "alternative_count"] (C8.fnScope (inClass (topS 65) 2)) := C8.fnScope_by (by decide +kernel)
def sp_Session_create (CI CS : Addr) : Sp := fun vs H Q _ => ∃ (X : List Addr) (Hc : Hp) (s : Addr) (st : Option SocialChoice) (n k : Nat), vs = [.ref s, nv n, nv k] ∧ Sess CI CS X Hc H s st ∧ DoneS CI CS X Hc H s st (.create n k) Q
theorem step_bad {st : Option SocialChoice} {n k : Nat} (h : n = 0 ∨ 3 < n ∨ k < 2 ∨ 4 < k) : stepS st (.create n k) = (st, [-22]) := by
  have e1 : ∀ m, Su193.execute m (.create n k) = (m, Su193.error (-22)) := fun m => if_pos h
  cases st with
  | none =>
    unfold stepS
    have e2 : Su193.step none (.create n k) = (none, Su193.error (-22)) := by
      show (if (Su193.execute (Su193.create 1 2) (.create n k)).2.value < 0 then none else some _, _) = _
      rw [e1]
      rfl
    rw [e2]
    rfl
  | some m =>
    unfold stepS
    have e2 : Su193.step (some m) (.create n k) = (some m, Su193.error (-22)) := by
      show (some (Su193.execute m (.create n k)).1, _) = _
      rw [e1]
    rw [e2]
    rfl
theorem step_good {st : Option SocialChoice} {n k : Nat} (h : ¬ (n = 0 ∨ 3 < n ∨ k < 2 ∨ 4 < k)) : stepS st (.create n k) = (some (Su193.create n k), [0]) := by
  have e1 : ∀ m, Su193.execute m (.create n k) = (Su193.create n k, Su193.ok 0 []) := fun m => if_neg h
  cases st with
  | none =>
    unfold stepS
    have e2 : Su193.step none (.create n k) = (some (Su193.create n k), Su193.ok 0 []) := by
      show (if (Su193.execute (Su193.create 1 2) (.create n k)).2.value < 0 then none else some _, _) = _
      rw [e1]
      rfl
    rw [e2]
    rfl
  | some m =>
    unfold stepS
    have e2 : Su193.step (some m) (.create n k) = (some (Su193.create n k), Su193.ok 0 []) := by
      show (some (Su193.execute m (.create n k)).1, _) = _
      rw [e1]
    rw [e2]
    rfl
theorem InstX.updX {CI x : Addr} {o : HO} {X : List Addr} (hx : x ∈ X) (I : InstX CI X H a D O m) : InstX CI X (upd H x o) a D O m := by
  obtain ⟨⟨⟨dx, h1⟩, h2, h3, ds, h4, h5⟩, h6, h7, h8, h9, ds', h10, h11⟩ := I
  have ha : a ≠ x := fun z => h6 (z ▸ hx)
  have hD : D ≠ x := fun z => h7 (z ▸ hx)
  have hO : O ≠ x := fun z => h8 (z ▸ hx)
  have e1 : Ex (but H (a :: D :: O :: X)) (but (upd H x o) (a :: D :: O :: X)) := fun y u hy => by
    obtain ⟨y1, y2⟩ := but_some hy
    refine but_of y1 ?_
    rw [upd_ne (fun z => y1 (by rw [z]; simp [hx]))]
    exact y2
  have h12 := pmono (fun y z h => LLN.mono e1 h) h11
  have h13 : (upd H x o) D = some (.lst (rfs ds')) := by
    rw [upd_ne hD]
    exact h10
  refine ⟨⟨⟨dx, by rw [upd_ne ha]; exact h1⟩, by rw [upd_ne hO]; exact h2, h3, ds', h13, pmono (fun y z h => LLN.mono (but_sub fun z hz => ?_) h) h12⟩, h6, h7, h8, fun y hy hn => ?_, ds', h13, h12⟩
  · simp only [List.mem_cons, List.not_mem_nil, or_false] at hz
    simp only [List.mem_cons]
    rcases hz with h | h | h
    · exact .inl h
    · exact .inr (.inl h)
    · exact .inr (.inr (.inl h))
  · by_cases hyx : y = x
    · rw [hyx, upd_same] at hn
      cases hn
    · rw [upd_ne hyx] at hn
      exact h9 y hy hn
/-- Instance(n, k) -/
theorem ep_mkInst {CI : Addr} {X : List Addr} {n k : Nat} (ht : EvA tas σ H [nv n, nv k]) (hX : ∀ x ∈ X, H x ≠ none) (h1 : 1 ≤ n) (h3 : n ≤ 3) :
    EvP (tMake CI (sp_Instance_new CI) [] C8.E0 tas) σ H (fun v H' => ∃ p D O, v = .ref p ∧ H p = none ∧ H D = none ∧ H O = none ∧ InstX CI X H' p D O (Su193.create n k)) := fun H1 e1 Q q => ht H1 e1 _ fun H2 e2 => fun p dp hp hdp hne => by
  have E2 := e1.trans e2
  have hpX : p ∉ X := fun z => hX p z (fresh_back E2 hp)
  have n3 : Ex H2 (upd (upd H2 dp (.own p)) p (.ins CI dp [])) := (Ex.new hdp).trans (Ex.new (by rw [upd_ne (Ne.symm hne)]; exact hp))
  refine ⟨X, p, dp, n, k, rfl, upd_same, hpX, fun x hx hn => hX x hx (fresh_back (E2.trans n3) hn), h1, h3, fun H3 D O hD hO e3 hX3 => ⟨rfl, ?_⟩⟩
  have e23 : Ex H2 H3 := fun x o ho => e3 x o (but_of (fun z => by
    rw [List.mem_singleton] at z
    rw [z, hp] at ho
    cases ho) (n3 x o ho))
  exact q _ H3 (e2.trans e23) ⟨p, D, O, rfl, fresh_back E2 hp, fresh_back (E2.trans n3) hD, fresh_back (E2.trans n3) hO, hX3⟩
theorem met_create (T : Txt K mg) (k_Instance : C8.Mak P w K mg base 1 "Instance" T.aI (sp_Instance_new T.aI) []) {f : Addr} {fd : FuncData} (F : C8.Fun K "create" "Session.create" s_Session_create f fd) (b : Binds K fd ["self", "agent_count", "alternative_count"] []) (me : Meth K T.aS "create" f) : C8.Met P w K mg base 3 T.aS "create" (sp_Session_create T.aI T.aS) [] := by
  refine C8.met0 T.cS me F b sc_Session_create (fun vs H Q E h => ?_) (fun cdv A outer s H vs Q E hr h => ⟨_, (pss_cons (ps_if (PW.pt (pw_or (pt_not (pt_chain op_le op_le pe_int (pv 1) pe_int)) (pw_or1 (pt_not (pt_chain op_le op_le pe_int (pv 2) pe_int)))))
  (pss_one (ps_ret (pe_lst (pa_cons (C8.pe_gc rfl T.g_INVALID) pa_nil))))
  pss_nil)
  (pss_cons (ps_fld (pv 0) (C8.pe_mk k_Instance hr (by decide) rfl (pa_cons (pv 1) (pa_cons (pv 2) pa_nil))) rfl)
  (pss_one (ps_ret (pe_lst (pa_cons pe_int pa_nil)))))), ?_⟩)
  · obtain ⟨X, Hc, s, st, n, k, rfl, _⟩ := h
    rfl
  · obtain ⟨X, Hc, s, st, n, k, rfl, S, q⟩ := h
    refine q_when (b := !(decide (1 ≤ n) && decide (n ≤ 3)) || !(decide (2 ≤ k) && decide (k ≤ 4))) (et_or (et_not (et_test (ev_mid ev_c (ev_var rfl) ev_c))) fun _ => et_not (et_test (ev_mid ev_c (ev_var rfl) ev_c))) (fun hb H1 e1 => ?_) (fun hb H1 e1 => ?_)
    · refine ro_retS S q e1 el_code (step_bad ?_) rfl
      simp at hb
      omega
    · simp at hb
      have hg := step_good (st := st) (n := n) (k := k) (by omega)
      obtain ⟨s1, s2, s3, s4, dx, s5⟩ := S.mono e1
      have hs : ∃ v, H1 s = some (.ins T.aS dx (seF v)) := by
        rcases s5 with ⟨_, h7⟩ | ⟨m, a, D, O, _, h7, _⟩
        · exact ⟨_, h7⟩
        · exact ⟨_, h7⟩
      obtain ⟨v0, hs⟩ := hs
      refine q_fldP (dx := dx) (fs := seF v0) ?_ (ep_mkInst (X := X) (n := n) (k := k) (ea_cons (ev_var rfl) (ea_cons (ev_var rfl) ea_nil)) s4 (by omega) (by omega)) (ev_var rfl) hs T.cS T.nS_instance (by show 1 < 1000; decide) fun v H2 e2 hv => ?_
      · intro v H3 H4 e4 ⟨p, D, O, z1, z2, z3, z4, z5⟩
        exact ⟨p, D, O, z1, z2, z3, z4, z5.mono e4⟩
      obtain ⟨p, D, O, rfl, hp, hD, hO, hI⟩ := hv
      have hput : putF "instance" (.ref p) (seF v0) = seF (.ref p) := rfl
      rw [hput]
      have kp : ∀ x, x ≠ s → ∀ o, H x = some o → (upd H2 s (.ins T.aS dx (seF (.ref p)))) x = some o := fun x hxs o ho => by
        rw [upd_ne hxs]
        exact e2 x o (e1 x o ho)
      refine s_retL el_code fun r H3 hr e3 hl => q H3 r ?_ (fun x hx hxs o ho => e3 x o (kp x hxs o ho)) (fun z => ?_) ?_ ?_
      · rw [hg]
        refine Sess.mono e3 ⟨fun x o ho => ?_, s2, s3, fun x hx hn => ?_, dx, .inr ⟨_, p, D, O, rfl, upd_same, hI.updX s2, wf_create (by omega) (by omega) (by omega) (by omega), fresh_back s1 hp, fresh_back s1 hD, fresh_back s1 hO⟩⟩
        · rw [upd_ne (fun z => by rw [z, s3 s s2] at ho; cases ho)]
          exact e2 x o (s1 x o ho)
        · by_cases hxs : x = s
          · rw [hxs, upd_same] at hn
            cases hn
          · rw [upd_ne hxs] at hn
            exact s4 x hx (fresh_back e2 hn)
      · by_cases hrs : r = s
        · rw [hrs, upd_same] at hr
          cases hr
        · rw [upd_ne hrs] at hr
          exact s4 r z (fresh_back e2 hr)
      · by_cases hrs : r = s
        · rw [hrs]
          exact s3 s s2
        · rw [upd_ne hrs] at hr
          exact fresh_back s1 (fresh_back e2 hr)
      · rw [hg, hl]
        rfl
end
end Tc
namespace Tc
open PySem PySem.Spec PyProof.Rows L2 Evl
open Su193 (SocialChoice)
section
variable {P : Program} {w : World} {K : PySem.W.Frag} {mg : Str → Option Value} {base : Heap} {σ : L2.St} {H H' H1 Hc : Hp} {ta tb te tv tl : TE} {a D O : Addr} {m : SocialChoice} {v : V} {Ds : Ends} {tu tz : TS} {g : TG} {tas : TA}
/-! ## carry_out -/
def cntP (p : Nat) : Nat := if p = 0 then 2 else (opOf p).2.1
def opP (p : Nat) (xs row : List Nat) : Su193.Operation := if p = 0 then .create (xs.getD 0 0) (xs.getD 1 0) else (opOf p).2.2 xs row
theorem wf_outs (W : WF m) {outs : List Nat} (hl : outs.length = m.profiles.length) (hb : ∀ x ∈ outs, x < m.alternativeCount) : WF { m with outcomes := outs } := ⟨W.n1, W.n3, W.k2, W.k4, W.dl, W.d6, W.pr, hl, hb⟩
theorem wf_rule (W : WF m) {rule : List Nat → Nat} (h : ∀ t ∈ m.profiles, rule t < m.alternativeCount) : WF (m.useRule rule) := wf_outs W (List.length_map ..) fun x hx => by
  obtain ⟨t, ht, rfl⟩ := List.mem_map.mp hx
  exact h t ht
theorem wf_dom (W : WF m) {i : Nat} {d : List (List Nat)} (h6 : d.length ≤ 6) (hp : ∀ r ∈ d, Su193.isPreference m.alternativeCount r = true) : WF ({ m with domains := m.domains.set i d } : SocialChoice).resetOutcomes := by
  refine ⟨W.n1, W.n3, W.k2, W.k4, ?_, fun e he => ?_, fun e he r hr => ?_, List.length_replicate .., fun x hx => ?_⟩
  · show (m.domains.set i d).length = _
    rw [List.length_set]
    exact W.dl
  · rcases List.mem_or_eq_of_mem_set he with h | h
    · exact W.d6 e h
    · rw [h]
      exact h6
  · rcases List.mem_or_eq_of_mem_set he with h | h
    · exact W.pr e h r hr
    · rw [h] at hr
      exact hp r hr
  · have := W.k2
    rw [List.eq_of_mem_replicate hx]
    show 0 < m.alternativeCount
    omega
theorem peak_lt {k : Nat} (hk : 0 < k) {r : List Nat} (h : ∀ x ∈ r, x < k) : Su193.peak r < k := by
  cases r with
  | nil => exact hk
  | cons x r => exact h x (List.mem_cons_self ..)
theorem rep_lt (W : WF m) {t : List Nat} (ht : t ∈ m.profiles) {i : Nat} (hi : i < m.agentCount) : ∀ x ∈ m.reported i t, x < m.alternativeCount := fun x hx => pref_lt (rep_pref W (prof_ok W ht) hi) hx
theorem seq_lt {k : Nat} {f : Nat → Nat → Bool} : ∀ (l : List Nat) (b : Nat), b < k → (∀ x ∈ l, x < k) → l.foldl (fun b x => if f b x = true then x else b) b < k
  | [], _, hb, _ => hb
  | x :: l, b, hb, h => by
    rw [List.foldl_cons]
    refine seq_lt l _ ?_ fun y hy => h y (List.mem_cons_of_mem _ hy)
    split
    · exact h x (List.mem_cons_self ..)
    · exact hb
theorem perms_ok {k : Nat} (h2 : 2 ≤ k) (h3 : k ≤ 3) : (Su193.permutations k (List.range k)).length ≤ 6 ∧ ∀ r ∈ Su193.permutations k (List.range k), Su193.isPreference k r = true := by
  have hc : k = 2 ∨ k = 3 := by omega
  rcases hc with h | h <;> subst h <;> decide
theorem wf_exec (W : WF m) {p : Nat} (h1 : 1 ≤ p) (h18 : p ≤ 18) (xs row : List Nat) (h8 : row.length ≤ 8) : WF (exec m ((opOf p).2.2 xs row)).1 := by
  have hk2 := W.k2
  have hn1 := W.n1
  have hc : p = 1 ∨ p = 2 ∨ p = 3 ∨ p = 4 ∨ p = 5 ∨ p = 6 ∨ p = 7 ∨ p = 8 ∨ p = 9 ∨ p = 10 ∨ p = 11 ∨ p = 12 ∨ p = 13 ∨ p = 14 ∨ p = 15 ∨ p = 16 ∨ p = 17 ∨ p = 18 := by omega
  rcases hc with h | h | h | h | h | h | h | h | h | h | h | h | h | h | h | h | h | h <;> subst h
  · show WF (Su193.execute m (.addPreference (xs.getD 0 0) row)).1
    generalize xs.getD 0 0 = i
    unfold Su193.execute
    dsimp only
    split
    · exact W
    · split
      · exact W
      · split
        · exact W
        · split
          · exact W
          · rename_i a1 a2 a3 a4
            have hi : i < m.agentCount := by omega
            refine wf_dom W ?_ fun r hr => ?_
            · rw [List.length_append]
              unfold Su193.maxPreferences at a4
              show _ + 1 ≤ 6
              omega
            · rcases List.mem_append.mp hr with h | h
              · exact W.pr _ (List.mem_of_getElem? (dom_at W hi)) r h
              · rw [List.mem_singleton.mp h]
                simpa using a2
  · show WF (Su193.execute m (.setFullDomain (xs.getD 0 0))).1
    generalize xs.getD 0 0 = i
    unfold Su193.execute
    dsimp only
    split
    · exact W
    · split
      · exact W
      · have hp := perms_ok (k := m.alternativeCount) hk2 (by omega)
        exact wf_dom W hp.1 hp.2
  · show WF (Su193.execute m (.setOutcome (xs.getD 0 0) row)).1
    generalize xs.getD 0 0 = i
    unfold Su193.execute
    dsimp only
    split
    · exact W
    · split
      · exact W
      · rename_i a1 a2
        refine wf_outs W (by rw [List.length_set]; exact W.ol) fun x hx => ?_
        rcases List.mem_or_eq_of_mem_set hx with h | h
        · exact W.ob x h
        · omega
  · show WF (Su193.execute m (.useDictatorship (xs.getD 0 0))).1
    generalize xs.getD 0 0 = i
    unfold Su193.execute
    dsimp only
    split
    · exact W
    · split
      · exact W
      · exact wf_rule W fun t ht => peak_lt (by omega) (rep_lt W ht (by omega))
  · show WF (Su193.execute m (.useGeneralizedMedian row)).1
    unfold Su193.execute
    dsimp only
    split
    · exact W
    · split
      · exact W
      · rename_i a1 a2
        refine wf_rule W fun t ht => ?_
        have ha : ∀ x ∈ row, x < m.alternativeCount := fun x hx => by
          rcases Nat.lt_or_ge x m.alternativeCount with h | h
          · exact h
          · exact absurd (.inr (List.any_eq_true.mpr ⟨x, hx, decide_eq_true h⟩)) a2
        unfold SocialChoice.generalizedMedian
        rw [List.getD_eq_getElem?_getD]
        cases hg : (Su193.sort ((m.agents.map fun i => Su193.peak (m.reported i t)) ++ row))[m.agentCount - 1]? with
        | none =>
          show 0 < m.alternativeCount
          omega
        | some x =>
          have hx := (sort_perm _).mem_iff.mp (List.mem_of_getElem? hg)
          rcases List.mem_append.mp hx with h | h
          · obtain ⟨i, hi, rfl⟩ := List.mem_map.mp h
            exact peak_lt (by omega) (rep_lt W ht (List.mem_range.mp hi))
          · exact ha x h
  · show WF (Su193.execute m .usePlurality).1
    unfold Su193.execute
    dsimp only
    split
    · exact W
    · exact wf_rule W fun t ht => Nat.lt_of_le_of_lt (best_is _ m.alternativeCount).1 (by omega)
  · show WF (Su193.execute m .useBorda).1
    unfold Su193.execute
    dsimp only
    split
    · exact W
    · exact wf_rule W fun t ht => Nat.lt_of_le_of_lt (best_is _ m.alternativeCount).1 (by omega)
  · show WF (Su193.execute m (.useSequentialMajority row)).1
    unfold Su193.execute
    dsimp only
    split
    · exact W
    · split
      · exact W
      · rename_i a1 a2
        have hp : Su193.isPreference m.alternativeCount row = true := by simpa using a2
        refine wf_rule W fun t ht => ?_
        unfold SocialChoice.sequentialMajority
        have hs := seq_lt (k := m.alternativeCount) (f := fun b x => decide (2 * (m.agents.filter fun i => Su193.prefers (m.reported i t) x b).length > m.agentCount)) (row.drop 1) (row.headD 0) (peak_lt (by omega) fun x hx => pref_lt hp hx) fun x hx => pref_lt hp (List.mem_of_mem_drop hx)
        simp only [decide_eq_true_eq] at hs
        exact hs
  all_goals
    unfold exec
    simp only [opOf, op_outcome, op_option_set, op_find_manipulation, op_count_manipulations, op_outcome_range, op_dictators, op_monotonicity_violation, op_inefficient_profile, op_is_single_peaked, op_describe, Su193.execute]
    repeat' split
    all_goals exact W
theorem step_none {p : Nat} (h1 : 1 ≤ p) (h18 : p ≤ 18) (xs row : List Nat) : stepS none ((opOf p).2.2 xs row) = (none, [-11]) := by
  have hc : p = 1 ∨ p = 2 ∨ p = 3 ∨ p = 4 ∨ p = 5 ∨ p = 6 ∨ p = 7 ∨ p = 8 ∨ p = 9 ∨ p = 10 ∨ p = 11 ∨ p = 12 ∨ p = 13 ∨ p = 14 ∨ p = 15 ∨ p = 16 ∨ p = 17 ∨ p = 18 := by omega
  rcases hc with h | h | h | h | h | h | h | h | h | h | h | h | h | h | h | h | h | h <;> (subst h; rfl)
def sp_carry_out (CI CC CS : Addr) : Sp := fun vs H Q _ => ∃ (X : List Addr) (Hc : Hp) (s c : Addr) (st : Option SocialChoice) (p : Nat) (xs row : List Nat), vs = [.ref s, .ref c] ∧ Sess CI CS X Hc H s st ∧ CallAt CC Hc c p xs row ∧ p ≤ 18 ∧ xs.length = cntP p ∧ row.length ≤ 8 ∧ DoneS CI CS X Hc H s st (opP p xs row) Q
theorem Sess.not {CI CS s x : Addr} {X : List Addr} {st : Option SocialChoice} {o : HO} (S : Sess CI CS X Hc H s st) (h : Hc x = some o) : x ∉ X := fun z => by
  rw [S.cX x z] at h
  cases h
abbrev s_Session_carry_out : Stmt := inClass (topS 65) 1
theorem sc_Session_carry_out : FnScope ["self", "call"] ["self", "call"] (C8.fnScope (inClass (topS 65) 1)) := C8.fnScope_by (by decide +kernel)
theorem met_carry_out (T : Txt K mg) (m_create : C8.Met P w K mg base 3 T.aS "create" (sp_Session_create T.aI T.aS) []) (c_perform : C8.Cal P w K mg base 6 "perform" (sp_perform T.aI T.aC) []) {f : Addr} {fd : FuncData} (F : C8.Fun K "carry_out" "Session.carry_out" s_Session_carry_out f fd) (b : Binds K fd ["self", "call"] []) (me : Meth K T.aS "carry_out" f) : C8.Met P w K mg base 7 T.aS "carry_out" (sp_carry_out T.aI T.aC T.aS) [] := by
  refine C8.met0 T.cS me F b sc_Session_carry_out (fun vs H Q E h => ?_) (fun cdv A outer s H vs Q E hr h => ⟨_, (pss_cons (ps_if (pt_cmpR op_eq (pe_fld (pv 1) rfl) (C8.pe_gc rfl T.g_CREATE) (nomark _))
  (pss_one (ps_ret (C8.pe_mt m_create hr (by decide) (pv 0) (pa_cons (pe_ix ix_list (pe_fld (pv 1) rfl) pe_int (fun _ _ => rfl)) (pa_cons (pe_ix ix_list (pe_fld (pv 1) rfl) pe_int (fun _ _ => rfl)) pa_nil)))))
  pss_nil)
  (pss_cons (ps_if (pt_cmpR op_isN (pe_fld (pv 0) rfl) pe_non (nomark _))
  (pss_one (ps_ret (pe_lst (pa_cons (C8.pe_gc rfl T.g_NO_INSTANCE) pa_nil))))
  pss_nil)
  (pss_one (ps_ret (C8.pe_c c_perform hr (by decide) rfl (pa_cons (pe_fld (pv 0) rfl) (pa_cons (pv 1) pa_nil))))))), ?_⟩)
  · obtain ⟨X, Hc, s, c, st, p, xs, row, rfl, _⟩ := h
    rfl
  · obtain ⟨X, Hc, s, c, st, p, xs, row, rfl, S, hC, h18, hn, h8, q⟩ := h
    obtain ⟨dx, ln, lr, c1, c2, c3⟩ := hC.mono S.ex
    refine q_when (b := decide (p = 0)) (et_test (ev_eqn (b := 0) (ev_fld (ev_var rfl) c1 T.cC T.nC_number rfl) ev_c)) (fun hb H1 e1 => ?_) (fun hb H1 e1 => ?_)
    · have hp0 : p = 0 := of_decide_eq_true hb
      subst hp0
      have hn2 : xs.length = 2 := hn
      have S1 := S.mono e1
      obtain ⟨dxs, hs⟩ : ∃ dx v, H1 s = some (.ins T.aS dx (seF v)) := by
        obtain ⟨_, _, _, _, dx, s5⟩ := S1
        rcases s5 with ⟨_, h7⟩ | ⟨m, a, D, O, _, h7, _⟩
        · exact ⟨dx, _, h7⟩
        · exact ⟨dx, _, h7⟩
      obtain ⟨v0, hs⟩ := hs
      show tMeth T.aS "create" (sp_Session_create T.aI T.aS) [] C8.E0 (tVar 0) (tCons (tOp (rIxL K) (tFld K (tVar 1) "numbers") (tC (.int 0))) (tCons (tOp (rIxL K) (tFld K (tVar 1) "numbers") (tC (.int 1))) tNil)) _ H1 _
      refine (ev_var rfl : Ev (tVar 0) _ H1 (.ref s)) H1 (Ex.refl H1) _ fun H2 e2 => ⟨s, dxs, seF v0, rfl, e2 s _ hs, rfl, ?_⟩
      refine (ea_cons (ba_num (i := 0) T (by omega) rfl (e2 c _ (e1 c _ c1)) (e2 ln _ (e1 ln _ c2))) (ea_cons (ba_num (i := 1) T (by omega) rfl (e2 c _ (e1 c _ c1)) (e2 ln _ (e1 ln _ c2))) ea_nil) : EvA _ _ H2 [nv (xs.getD 0 0), nv (xs.getD 1 0)]) H2 (Ex.refl H2) _ fun H3 e3 => ?_
      exact ⟨X, Hc, s, st, _, _, rfl, S1.mono (e2.trans e3), q.mono ((e1.trans e2).trans e3)⟩
    · have hp0 : p ≠ 0 := of_decide_eq_false hb
      have S1 := S.mono e1
      have hop : opP p xs row = (opOf p).2.2 xs row := if_neg hp0
      have hcn : cntP p = (opOf p).2.1 := if_neg hp0
      rw [hop] at q
      have q1 := q.mono e1
      obtain ⟨s1, s2, s3, s4, dxs, s5⟩ := S1
      rcases s5 with ⟨h6, h7⟩ | ⟨m, a, D, O, h6, h7, hX, W, g1, g2, g3⟩
      · subst h6
        refine q_when (b := true) (et_test (ev_op (ev_fld (ev_var rfl) h7 T.cS T.nS_instance rfl) ev_c fun H5 _ Q5 q5 => ⟨rfl, q5 H5 (Ex.refl H5)⟩)) (fun _ H2 e2 => ?_) (fun hb => by cases hb)
        exact ro_retS S q (e1.trans e2) el_code (step_none (by omega) h18 xs row) rfl
      · subst h6
        refine q_when (b := false) (et_test (ev_op (ev_fld (ev_var rfl) h7 T.cS T.nS_instance rfl) ev_c fun H5 _ Q5 q5 => ⟨rfl, q5 H5 (Ex.refl H5)⟩)) (fun hb => by cases hb) (fun _ H2 e2 => ?_)
        have hcl : ∀ H5, Ex H1 H5 → CallAt T.aC (but H5 (a :: D :: O :: X)) c p xs row := fun H5 e5 => by
          obtain ⟨dx, ln, lr, k1, k2, k3⟩ := hC
          have go : ∀ (x : Addr) (o : HO), Hc x = some o → but H5 (a :: D :: O :: X) x = some o := fun x o hx => by
            refine but_of ?_ (e5 x o (s1 x o hx))
            simp only [List.mem_cons, not_or]
            exact ⟨fun z => (by rw [z, g1] at hx; cases hx), fun z => (by rw [z, g2] at hx; cases hx), fun z => (by rw [z, g3] at hx; cases hx), S.not hx⟩
          exact ⟨dx, ln, lr, go _ _ k1, go _ _ k2, go _ _ k3⟩
        show tCall (sp_perform T.aI T.aC) [] C8.E0 (tCons (tFld K (tVar 0) "instance") (tCons (tVar 1) tNil)) _ H2 _
        refine (ea_cons (ev_fld (ev_var rfl) (e2 s _ h7) T.cS T.nS_instance rfl) (ea_cons (ev_var rfl) ea_nil) : EvA _ _ H2 [.ref a, .ref c]) H2 (Ex.refl H2) _ fun H3 e3 => ?_
        have E3 := e2.trans e3
        have hX3 := hX.mono E3
        refine ⟨X, a, D, O, c, m, p, xs, row, rfl, hX3, W, hcl H3 E3, by omega, h18, by rw [hn, hcn], h8, fun H' O' r hO' f' hI' hr hl => ?_⟩
        have q3 := q1.mono E3
        have xin : ∀ x ∈ X, x ∉ ([a, D, O] : List Addr) := fun x hx z => by
          simp only [List.mem_cons, List.not_mem_nil, or_false] at z
          rcases z with z | z | z
          · exact hX3.aX (z ▸ hx)
          · exact hX3.DX (z ▸ hx)
          · exact hX3.OX (z ▸ hx)
        have kp : ∀ x ∈ X, ∀ o, H3 x = some o → H' x = some o := fun x hx o ho => f' x o (but_of (xin x hx) ho)
        have fr : ∀ x, but H3 [a, D, O] x = none → Hc x = none := fun x hx => by
          cases hcx : Hc x with
          | none => rfl
          | some o =>
            have h9 := E3 x o (s1 x o hcx)
            rw [but_of (fun z => ?_) h9] at hx
            · cases hx
            · simp only [List.mem_cons, List.not_mem_nil, or_false] at z
              rcases z with z | z | z <;> rw [z] at hcx
              · rw [g1] at hcx
                cases hcx
              · rw [g2] at hcx
                cases hcx
              · rw [g3] at hcx
                cases hcx
        have hrX : r ∉ X := fun z => by
          have h9 : H3 r ≠ none := fun hn => s4 r z (fresh_back E3 hn)
          cases hh : H3 r with
          | none => exact h9 hh
          | some o =>
            rw [but_of (xin r z) hh] at hr
            cases hr
        refine q3 H' r ⟨fun x o hx => ?_, s2, s3, fun x hx hn => ?_, dxs, .inr ⟨_, a, D, O', rfl, kp s s2 _ (E3 s _ h7), hI', wf_exec W (by omega) h18 xs row h8, g1, g2, ?_⟩⟩ (fun x hx _ o ho => kp x hx o ho) hrX (fr r hr) hl
        · refine f' x o (but_of (fun z => ?_) (E3 x o (s1 x o hx)))
          simp only [List.mem_cons, List.not_mem_nil, or_false] at z
          rcases z with z | z | z <;> rw [z] at hx
          · rw [g1] at hx
            cases hx
          · rw [g2] at hx
            cases hx
          · rw [g3] at hx
            cases hx
        · cases hh : H3 x with
          | none => exact s4 x hx (fresh_back E3 hh)
          | some o =>
            rw [kp x hx o hh] at hn
            cases hn
        · rcases hO' with z | z
          · rw [z]
            exact g3
          · exact fr O' z
end
end Tc
namespace Tc
open PySem PySem.Spec PyProof.Rows L2 Evl
open Su193 (SocialChoice)
/-! ## The calls as one list of numbers -/
abbrev Cl := Nat × List Nat × List Nat
def hasL (p : Nat) : Bool := ([1, 3, 5, 8, 9, 10] : List Nat).contains p
def enc (c : Cl) : List Nat := c.1 :: (c.2.1 ++ if hasL c.1 then c.2.2.length :: c.2.2 else [])
structure ClOk (c : Cl) : Prop where
  p18 : c.1 ≤ 18
  xs : c.2.1.length = cntP c.1
  no : hasL c.1 = false → c.2.2 = []
  row : c.2.2.length ≤ 8
def encs (cs : List Cl) : List Nat := cs.flatMap enc
theorem encs_at {cs : List Cl} {k : Nat} {c : Cl} (h : cs[k]? = some c) : encs cs = encs (cs.take k) ++ (enc c ++ encs (cs.drop (k + 1))) := by
  have hk : k < cs.length := (List.getElem?_eq_some_iff.mp h).1
  have hc : cs[k] = c := (List.getElem?_eq_some_iff.mp h).2
  have e : cs = cs.take k ++ (c :: cs.drop (k + 1)) := by
    rw [← hc, ← List.drop_eq_getElem_cons hk, List.take_append_drop]
  unfold encs
  conv => lhs; rw [e]
  rw [List.flatMap_append, List.flatMap_cons]
theorem encs_more {cs : List Cl} {k : Nat} {c : Cl} (h : cs[k]? = some c) : encs (cs.take (k + 1)) = encs (cs.take k) ++ enc c := by
  unfold encs
  rw [take_more h, List.flatMap_append, List.flatMap_cons, List.flatMap_nil, List.append_nil]
theorem enc_pos (c : Cl) : 1 ≤ (enc c).length := by
  unfold enc
  rw [List.length_cons]
  omega
theorem encs_len (cs : List Cl) : cs.length ≤ (encs cs).length := by
  induction cs with
  | nil => exact Nat.zero_le _
  | cons c cs ih =>
    unfold encs at ih ⊢
    rw [List.flatMap_cons, List.length_append, List.length_cons]
    have := enc_pos c
    omega
theorem mid_take {α : Type} (A B C : List α) : ((A ++ (B ++ C)).drop A.length).take B.length = B := by
  rw [List.drop_left, List.take_left]
theorem mid_cut {ns A B C : List Nat} {i j : Nat} (h : ns = A ++ (B ++ C)) (hi : i = A.length) (hj : j = A.length + B.length) : cutV (nvs ns) (some (i : Int)) (some (j : Int)) = nvs B := by
  subst h hi hj
  rw [cut_mid _ _ _ (by omega) (by rw [List.length_map, List.length_append, List.length_append]; omega), Nat.add_sub_cancel_left, nvs, ← List.map_drop, ← List.map_take, mid_take]
theorem at_mid {ns A C : List Nat} {x i : Nat} (h : ns = A ++ (x :: C)) (hi : i = A.length) : ns[i]? = some x := by
  subst h hi
  rw [List.getElem?_append_right (Nat.le_refl _), Nat.sub_self]
  rfl
theorem counts_at {p : Nat} (h : p ≤ 18) : ([2, 1, 1, 1, 1, 0, 0, 0, 0, 0, 1, 0, 1, 0, 0, 0, 0, 1, 0] : List Nat)[p]? = some (cntP p) := by
  have hc : p = 0 ∨ p = 1 ∨ p = 2 ∨ p = 3 ∨ p = 4 ∨ p = 5 ∨ p = 6 ∨ p = 7 ∨ p = 8 ∨ p = 9 ∨ p = 10 ∨ p = 11 ∨ p = 12 ∨ p = 13 ∨ p = 14 ∨ p = 15 ∨ p = 16 ∨ p = 17 ∨ p = 18 := by omega
  rcases hc with h | h | h | h | h | h | h | h | h | h | h | h | h | h | h | h | h | h | h <;> (subst h; rfl)
section
variable {P : Program} {w : World} {K : PySem.W.Frag} {mg : Str → Option Value} {base : Heap} {σ : L2.St} {H H' H1 H2 Hc : Hp} {ta tb te tv tl : TE} {a D O : Addr} {m : SocialChoice} {v : V} {Ds : Ends} {tu tz : TS} {g : TG} {tas : TA}
/-- what H' knows beyond H -/
def nw (H H' : Hp) : Hp := fun x => match H x with
  | none => H' x
  | some _ => none
theorem nw_none {x : Addr} (h : H x = none) : nw H H' x = H' x := by
  unfold nw
  rw [h]
theorem nw_some {x : Addr} {o : HO} (h : nw H H' x = some o) : H x = none ∧ H' x = some o := by
  unfold nw at h
  split at h
  · exact ⟨by assumption, h⟩
  · cases h
theorem nw_ex : Ex (nw H H') H' := fun x o h => (nw_some h).2
theorem nw_mono (e : Ex H1 H2) : Ex (nw H H1) (nw H H2) := fun x o h => by
  obtain ⟨h1, h2⟩ := nw_some h
  rw [nw_none h1]
  exact e x o h2
theorem s_appP {l : Addr} {xs : List V} {Pr : V → Hp → Prop} (hl : H l = some (.lst xs)) (ha : Ev ta σ H (.ref l)) (h : EvP te σ H Pr) (hz : xs.length < 100000) (k : ∀ v H1, Ex H H1 → Pr v H1 → Ds.nx σ (upd H1 l (.lst (xs ++ [v])))) :
    tDrop (tBM K "list" rAppend ta (tCons te tNil)) Ds σ H := ha H (Ex.refl H) _ fun H1 e1 =>
  ⟨Or.inl ⟨rfl, xs, sq_of (e1 l _ hl)⟩, h H1 e1 _ fun v H2 e2 hv => ⟨l, xs, v, rfl, rfl, e2 l _ (e1 l _ hl), sz_lt hz, k v H2 (e1.trans e2) hv⟩⟩
theorem q_augN {i a b : Nat} (hx : σ[i]? = some (some (nv a))) (h : Ev te σ H (nv b)) (k : ∀ H1, Ex H H1 → tz Ds (σ.set i (some (nv (a + b)))) H1) : tSeq (tAug i te (ipI fun i j => i + j)) tz Ds σ H :=
  q_aug hx h fun H1 e1 => by
    have e0 : (V.int ((a : Int) + (b : Int))) = nv (a + b) := by
      show V.int _ = V.int _
      rw [Int.natCast_add]
    rw [e0]
    exact k H1 e1
/-- Call(number, numbers, row) -/
theorem ep_mkCall {CC : Addr} {n : Nat} {ln lr : Addr} (ht : EvA tas σ H [nv n, .ref ln, .ref lr]) :
    EvP (tMake CC (sp_Call_new CC) [] C8.E0 tas) σ H (fun v H' => ∃ p dx, v = .ref p ∧ H p = none ∧ H' p = some (.ins CC dx (cF n ln lr))) := fun H1 e1 Q q => ht H1 e1 _ fun H2 e2 => fun p dp hp hdp hne => by
  have n3 : Ex H2 (upd (upd H2 dp (.own p)) p (.ins CC dp [])) := (Ex.new hdp).trans (Ex.new (by rw [upd_ne (Ne.symm hne)]; exact hp))
  refine ⟨p, dp, n, ln, lr, rfl, upd_same, fun H3 e3 hX3 => ⟨rfl, ?_⟩⟩
  have e23 : Ex H2 H3 := fun x o ho => e3 x o (but_of (fun z => by
    rw [List.mem_singleton] at z
    rw [z, hp] at ho
    cases ho) (n3 x o ho))
  exact q _ H3 (e2.trans e23) ⟨p, dp, rfl, fresh_back (e1.trans e2) hp, hX3⟩
def CallsAt (CC : Addr) (H : Hp) (qs : List Addr) (cs : List Cl) : Prop := Paired (fun q (c : Cl) => CallAt CC H q c.1 c.2.1 c.2.2) qs cs
theorem CallsAt.mono {CC : Addr} {qs : List Addr} {cs : List Cl} (e : Ex H H') (h : CallsAt CC H qs cs) : CallsAt CC H' qs cs := pmono (fun q c h => CallAt.mono e h) h
def sp_read_calls (K : PySem.W.Frag) (CC : Addr) : Sp := fun vs H Q _ => ∃ (a : Addr) (cs : List Cl), vs = [.ref a] ∧ SqL K H a (nvs (encs cs)) ∧ (∀ c ∈ cs, ClOk c) ∧ (encs cs).length ≤ 4400 ∧
  ∀ (H' : Hp) (F : Addr) (qs : List Addr), H F = none → Ex H H' → H' F = some (.lst (rfs qs)) → CallsAt CC (nw H H') qs cs → Q (.ref F) H'
/-- after k calls -/
def RdInv (CC : Addr) (a : Addr) (H : Hp) (cs : List Cl) (k : Nat) (σ : L2.St) (H' : Hp) : Prop := ∃ (F : Addr) (qs : List Addr) (x3 x4 x5 x6 : Option V), k ≤ cs.length ∧ σ = [some (.ref a), some (.ref F), some (nv (encs (cs.take k)).length), x3, x4, x5, x6] ∧
  Ex H H' ∧ H F = none ∧ H' F = some (.lst (rfs qs)) ∧ CallsAt CC (nw H (but H' [F])) qs (cs.take k)
abbrev s_read_calls : Stmt := topS 4
theorem sc_read_calls : FnScope ["calls", "found", "place", "number", "numbers", "row", "row_end"] ["calls"] (C8.fnScope (topS 4)) := C8.fnScope_by (by decide +kernel)
theorem cal_read_calls (T : Txt K mg) (k_Call : C8.Mak P w K mg base 1 "Call" T.aC (sp_Call_new T.aC) []) {f : Addr} {fd : FuncData} (F : C8.Def K mg "read_calls" s_read_calls f fd) (b : Binds K fd ["calls"] []) : C8.Cal P w K mg base 3 "read_calls" (sp_read_calls K T.aC) [] := by
  refine C8.cal0 F b .nil sc_read_calls (fun vs H Q E h => ?_) (fun cdv A outer s H vs Q E hr h => ⟨_, (pss_cons (ps_set (i := 1) sc_read_calls.nd rfl (Or.inl rfl) (pe_lst pa_nil))
  (pss_cons (ps_set (i := 2) sc_read_calls.nd rfl (Or.inl rfl) pe_int)
  (pss_cons (ps_while PassesOwn.never (pt_cmpR op_lt (pv 2) (pe_callB call_len_seq (by rfl) T.len PySem.boot_len (pa_cons (pv 0) pa_nil)) (nomark _))
  (pss_cons (ps_set (i := 3) sc_read_calls.nd rfl (Or.inl rfl) (pe_ix ix_list (pv 0) (pv 2) (fun _ _ => rfl)))
  (pss_cons (ps_aug (i := 2) sc_read_calls.nd rfl (Or.inl rfl) pe_int ip_add)
  (pss_cons (ps_set (i := 4) sc_read_calls.nd rfl (Or.inl rfl) (pe_slice sl_list (pv 0) (po_some (pv 2)) (po_some (pe_op op_add (pv 2) (pe_ix ix_tup (C8.pe_gc rfl T.g_NUMBER_COUNTS) (pv 3) (fun _ _ => rfl))))))
  (pss_cons (ps_aug (i := 2) sc_read_calls.nd rfl (Or.inl rfl) (pe_callB call_len_seq (by rfl) T.len PySem.boot_len (pa_cons (pv 4) pa_nil)) ip_add)
  (pss_cons (ps_set (i := 5) sc_read_calls.nd rfl (Or.inl rfl) (pe_lst pa_nil))
  (pss_cons (ps_if (pt_cmpR op_in_seq (pv 3) (C8.pe_gc rfl T.g_CALLS_WITH_LIST) (by rfl))
  (pss_cons (ps_set (i := 6) sc_read_calls.nd rfl (Or.inl rfl) (pe_op op_add (pe_op op_add (pv 2) pe_int) (pe_ix ix_list (pv 0) (pv 2) (fun _ _ => rfl))))
  (pss_cons (ps_set (i := 5) sc_read_calls.nd rfl (Or.inl rfl) (pe_slice sl_list (pv 0) (po_some (pe_op op_add (pv 2) pe_int)) (po_some (pv 6))))
  (pss_one (ps_set (i := 2) sc_read_calls.nd rfl (Or.inl rfl) (pv 6)))))
  pss_nil)
  (pss_one (ps_expr (pe_bm PySem.F.plainAttrs_list PySem.F.slot_list_append PySem.F.type_list_append mt_append (pv 1) (pa_cons (C8.pe_mk k_Call hr (by decide) rfl (pa_cons (pv 3) (pa_cons (pv 4) (pa_cons (pv 5) pa_nil)))) pa_nil)))))))))))
  (pss_one (ps_ret (pv 1)))))), ?_⟩)
  · obtain ⟨a, cs, rfl, _⟩ := h
    rfl
  · obtain ⟨a, cs, rfl, ha, hok, hlen, q⟩ := h
    have hcl : cs.length ≤ 4400 := Nat.le_trans (encs_len cs) hlen
    refine q_asgL (xs := []) (el_lst ea_nil (by show 0 ≤ 100000; decide)) fun F H1 hF e1 h1 => ?_
    refine q_asg (v := nv 0) ev_c fun H2 e2 => ?_
    refine q_while (fun j σ' H' => ∃ k, j = cs.length - k ∧ RdInv T.aC a H cs k σ' H') cs.length ⟨0, rfl, F, [], none, none, none, none, Nat.zero_le _, rfl, e1.trans e2, hF, e2 F _ h1, .nil⟩ fun j σ' H' hw => ?_
    obtain ⟨k, rfl, F, qs, x3, x4, x5, x6, hk, rfl, E, hF', hl, hq⟩ := hw
    have hlt : decide ((encs (cs.take k)).length < (encs cs).length) = decide (k < cs.length) := by
      refine decide_eq_decide.mpr ⟨fun h => ?_, fun h => ?_⟩
      · rcases Nat.lt_or_ge k cs.length with h2 | h2
        · exact h2
        · rw [List.take_of_length_le h2] at h
          omega
      · have hc := encs_at (List.getElem?_eq_getElem h)
        have := enc_pos cs[k]
        rw [hc, List.length_append, List.length_append]
        omega
    refine ⟨decide (k < cs.length), et_test (ev_is (ev_lt (b := (encs cs).length) (ev_var rfl) (ev_is (ev_len (ev_var rfl) (ex_l E ha)) (by rw [List.length_map]))) (by rw [hlt])), fun hb H3 e3 => ?_, fun hb H3 e3 => ?_⟩
    · have hkl : k < cs.length := of_decide_eq_true hb
      refine ⟨fun σ2 H2 => RdInv T.aC a H cs (k + 1) σ2 H2, fun σ2 H2 h => ⟨cs.length - (k + 1), by omega, k + 1, rfl, h⟩, ?_⟩
      obtain ⟨c, hc⟩ : ∃ c, cs[k]? = some c := ⟨_, List.getElem?_eq_getElem hkl⟩
      have hck := hok c (List.mem_of_getElem? hc)
      have hat := encs_at hc
      have hmore := encs_more hc
      obtain ⟨p, xs, row⟩ := c
      have h18 : p ≤ 18 := hck.p18
      have hxs : xs.length = cntP p := hck.xs
      have hno : hasL p = false → row = [] := hck.no
      have hrow : row.length ≤ 8 := hck.row
      unfold enc at hat hmore
      dsimp only at hat hmore
      have E3 := E.trans e3
      have hposl : (encs (cs.take k)).length ≤ 4400 := by
        rw [hat, List.length_append] at hlen
        omega
      revert hat hmore ha hlen
      generalize encs cs = ns
      intro ha hlen hat hmore
      have hmore2 : (encs (cs.take (k + 1))).length = (encs (cs.take k)).length + 1 + xs.length + (if hasL p then 1 + row.length else 0) := by
        rw [hmore, List.length_append, List.length_cons, List.length_append]
        split
        · rw [List.length_cons]
          omega
        · rw [List.length_nil]
          omega
      clear hmore
      revert hposl hat hmore2
      generalize encs (cs.take k) = P0
      intro hposl hat hmore2
      refine q_asg (v := nv p) (ev_ix (i := P0.length) (ev_var rfl) (ev_var rfl) (ex_l E3 ha) (nvs_at (at_mid hat rfl))) fun H4 e4 => ?_
      refine q_augN (a := P0.length) (b := 1) rfl ev_c fun H5 e5 => ?_
      have E5 := E3.trans (e4.trans e5)
      refine q_asgL (xs := nvs xs) ?_ fun ln H6 hn6 e6 hl6 => ?_
      · rw [← mid_cut (ns := ns) (A := P0 ++ [p]) (B := xs) (C := (if hasL p = true then row.length :: row else []) ++ encs (cs.drop (k + 1))) (i := P0.length + 1) (j := P0.length + 1 + cntP p) (by rw [hat]; simp) (by rw [List.length_append]; rfl) (by rw [List.length_append, hxs]; rfl)]
        exact el_sl (ev_var rfl) (eo_some (ev_var rfl)) (eo_some (ev_add (ev_var rfl) (ev_ixT (i := p) ev_c (ev_var rfl) (T.sN _) (nvs_at (counts_at h18))))) (ex_l E5 ha)
      have F3 : ∀ H', Ex H3 H' → H' F = some (.lst (rfs qs)) := fun H' e => e F _ (e3 F _ hl)
      have hlnF : ln ≠ F := fun z => by
        rw [z, F3 _ (e4.trans e5)] at hn6
        cases hn6
      have hlnH : H ln = none := fresh_back E5 hn6
      refine q_augN (a := P0.length + 1) (b := xs.length) rfl (ev_is (ev_lenL (ev_var rfl) hl6) (by rw [List.length_map])) fun H7 e7 => ?_
      refine q_asgL (xs := []) (el_lst ea_nil (by show 0 ≤ 100000; decide)) fun lr H8 hn8 e8 hl8 => ?_
      have E38 : Ex H3 H8 := (((e4.trans e5).trans e6).trans e7).trans e8
      have E8 := E3.trans E38
      have hl68 := (e7.trans e8) ln _ hl6
      have fin : ∀ (D2 : Ends) (lr : Addr) (y6 : Option V) (H9 : Hp), (∀ σ2 H2, RdInv T.aC a H cs (k + 1) σ2 H2 → D2.nx σ2 H2) → Ex H8 H9 → H9 lr = some (.lst (nvs row)) → H lr = none → lr ≠ F →
          tDrop (tBM K "list" rAppend (tVar 1) (tCons (tMake T.aC (sp_Call_new T.aC) [] C8.E0 (tCons (tVar 3) (tCons (tVar 4) (tCons (tVar 5) tNil)))) tNil)) D2
            [some (.ref a), some (.ref F), some (nv (P0.length + 1 + xs.length + (if hasL p then 1 + row.length else 0))), some (nv p), some (.ref ln), some (.ref lr), y6] H9 := fun D2 lr y6 H9 hD e9 hlr hlrH hlrF => by
        have E39 := E38.trans e9
        have hqk : qs.length = k := by rw [plen hq, List.length_take]; omega
        refine s_appP (xs := rfs qs) (F3 _ E39) (ev_var rfl) (ep_mkCall (n := p) (ln := ln) (lr := lr) (ea_cons (ev_var rfl) (ea_cons (ev_var rfl) (ea_cons (ev_var rfl) ea_nil)))) (by rw [List.length_map]; omega) fun v H10 e10 hv => hD _ _ ?_
        obtain ⟨o, dx, rfl, ho, hob⟩ := hv
        have hoH : H o = none := fresh_back (E3.trans E39) ho
        have hoF : o ≠ F := fun z => by
          rw [z, F3 _ E39] at ho
          cases ho
        have keep : ∀ x u, x ≠ F → H x = none → H10 x = some u → nw H (but (upd H10 F (.lst (rfs qs ++ [.ref o]))) [F]) x = some u := fun x u hxF hx hu => by
          rw [nw_none hx, but_at (fun z => hxF (List.mem_singleton.mp z)), upd_ne hxF]
          exact hu
        refine ⟨F, qs ++ [o], some (nv p), some (.ref ln), some (.ref lr), y6, hkl, by rw [hmore2], Ex.mut (E3.trans (E39.trans e10)) hF', hF', ?_, ?_⟩
        · rw [upd_same, rfs, rfs, List.map_append]
          rfl
        · rw [take_more hc]
          refine papp (pmono (fun x y h => CallAt.mono (fun z u hz => ?_) h) hq) (.cons ⟨dx, ln, lr, keep o _ hoF hoH hob, keep ln _ hlnF hlnH (e10 _ _ (e9 _ _ hl68)), keep lr _ hlrF hlrH (e10 _ _ hlr)⟩ .nil)
          obtain ⟨z1, z2⟩ := nw_some hz
          obtain ⟨z3, z4⟩ := but_some z2
          exact keep z u (fun z5 => z3 (by rw [z5]; exact List.mem_singleton.mpr rfl)) z1 ((e3.trans (E39.trans e10)) z u z4)
      refine q_when (b := hasL p) (et_test (ev_is (ev_op (x := nv p) (y := .ref T.aL) (ev_var rfl) ev_c (rv_isT (T.sL _) rfl (flat_nvs _))) (by rw [inV_nvs]; rfl))) (fun hb H9 e9 => ?_) (fun hb H9 e9 => ?_)
      · have hat2 := hat
        rw [hb, if_pos rfl] at hat2
        have hcat : ns = (P0 ++ [p] ++ xs) ++ (row.length :: (row ++ encs (cs.drop (k + 1)))) := by rw [hat2]; simp
        have hcat2 : ns = (P0 ++ [p] ++ xs ++ [row.length]) ++ (row ++ encs (cs.drop (k + 1))) := by rw [hat2]; simp
        have E9 := E8.trans e9
        refine q_asg (v := nv (P0.length + 1 + xs.length + 1 + row.length)) (ev_add (b := row.length) (ev_add (b := 1) (ev_var rfl) ev_c) (ev_ix (i := P0.length + 1 + xs.length) (ev_var rfl) (ev_var rfl) (ex_l E9 ha) (nvs_at (at_mid hcat (by simp; omega))))) fun H10 e10 => ?_
        refine q_asgL (xs := nvs row) ?_ fun lr2 H11 hn11 e11 hl11 => ?_
        · rw [← mid_cut (ns := ns) (A := P0 ++ [p] ++ xs ++ [row.length]) (B := row) (C := encs (cs.drop (k + 1))) (i := P0.length + 1 + xs.length + 1) (j := P0.length + 1 + xs.length + 1 + row.length) hcat2 (by simp; omega) (by simp; omega)]
          exact el_sl (ev_var rfl) (eo_some (ev_add (b := 1) (ev_var rfl) ev_c)) (eo_some (ev_var rfl)) (ex_l (E9.trans e10) ha)
        have hn := fresh_back (e9.trans e10) hn11
        refine s_asg (v := nv (P0.length + 1 + xs.length + 1 + row.length)) (ev_var rfl) fun H12 e12 => ?_
        have e812 := ((e9.trans e10).trans e11).trans e12
        have hg := fin { ({ nx := fun _ H' => Q .non H', rt := Q } : Ends) with nx := fun σ2 H2 => RdInv T.aC a H cs (k + 1) σ2 H2, ct := fun σ2 H2 => RdInv T.aC a H cs (k + 1) σ2 H2, bk := tRet (tVar 1) { nx := fun _ H' => Q .non H', rt := Q } } lr2 (some (nv (P0.length + 1 + xs.length + 1 + row.length))) H12 (fun _ _ h => h) e812 (e12 _ _ hl11) (fresh_back E8 hn) (fun z => by
          rw [z, F3 _ E38] at hn
          cases hn)
        rw [hb, if_pos rfl] at hg
        have e0 : P0.length + 1 + xs.length + (1 + row.length) = P0.length + 1 + xs.length + 1 + row.length := by omega
        rw [e0] at hg
        exact hg
      · have hr0 := hno hb
        have hg := fin { ({ nx := fun _ H' => Q .non H', rt := Q } : Ends) with nx := fun σ2 H2 => RdInv T.aC a H cs (k + 1) σ2 H2, ct := fun σ2 H2 => RdInv T.aC a H cs (k + 1) σ2 H2, bk := tRet (tVar 1) { nx := fun _ H' => Q .non H', rt := Q } } lr x6 H9 (fun _ _ h => h) e9 (by rw [hr0]; exact e9 _ _ hl8) (fresh_back (E3.trans (((e4.trans e5).trans e6).trans e7)) hn8) (fun z => by
          rw [z, F3 _ (((e4.trans e5).trans e6).trans e7)] at hn8
          cases hn8)
        rw [hb, if_neg (by decide), Nat.add_zero] at hg
        exact hg
    · have hkl : ¬ k < cs.length := of_decide_eq_false hb
      have hke : cs.take k = cs := List.take_of_length_le (by omega)
      rw [hke] at hq
      refine s_ret (v := .ref F) (ev_var rfl) fun H4 e4 => q H4 F qs hF' (E.trans (e3.trans e4)) ((e3.trans e4) F _ hl) (hq.mono fun x o hx => ?_)
      obtain ⟨y1, y2⟩ := nw_some hx
      rw [nw_none y1]
      exact (e3.trans e4) x o (but_some y2).2
end
end Tc
namespace Tc
open PySem PySem.Spec PyProof.Rows L2 Evl
open Su193 (SocialChoice)
section
variable {P : Program} {w : World} {K : PySem.W.Frag} {mg : Str → Option Value} {base : Heap} {σ : L2.St} {H H' H1 H2 Hc : Hp} {ta tb te tv tl : TE} {a D O : Addr} {m : SocialChoice} {v : V} {Ds : Ends} {tu tz : TS} {g : TG} {tas : TA}
/-! ## answers -/
def tell (z : Option SocialChoice × List Int) (c : Cl) : Option SocialChoice × List Int := ((stepS z.1 (opP c.1 c.2.1 c.2.2)).1, z.2 ++ (((stepS z.1 (opP c.1 c.2.1 c.2.2)).2.length : Int) :: (stepS z.1 (opP c.1 c.2.1 c.2.2)).2))
def tells (cs : List Cl) : Option SocialChoice × List Int := cs.foldl tell (none, [])
theorem tells_more {cs : List Cl} {k : Nat} {c : Cl} (h : cs[k]? = some c) : tells (cs.take (k + 1)) = tell (tells (cs.take k)) c := by
  unfold tells
  rw [take_more h, List.foldl_append]
  rfl
theorem tell_len (cs : List Cl) : ∀ z, z.2.length ≤ (cs.foldl tell z).2.length := by
  induction cs with
  | nil => exact fun z => Nat.le_refl _
  | cons c cs ih =>
    intro z
    rw [List.foldl_cons]
    refine Nat.le_trans ?_ (ih _)
    unfold tell
    rw [List.length_append]
    omega
theorem tells_len (cs : List Cl) (k : Nat) : (tells (cs.take k)).2.length ≤ (tells cs).2.length := by
  have h := tell_len (cs.drop k) (tells (cs.take k))
  unfold tells at h ⊢
  rw [← List.foldl_append, List.take_append_drop] at h
  exact h
theorem Sess.updX {CI CS s x : Addr} {X : List Addr} {st : Option SocialChoice} {o : HO} (hx : x ∈ X) (hs : x ≠ s) (S : Sess CI CS X Hc H s st) : Sess CI CS X Hc (upd H x o) s st := by
  obtain ⟨h1, h2, h3, h4, dx, h5⟩ := S
  refine ⟨fun y u hy => ?_, h2, h3, fun y hy hn => ?_, dx, ?_⟩
  · rw [upd_ne (fun z => by rw [z, h3 x hx] at hy; cases hy)]
    exact h1 y u hy
  · by_cases hyx : y = x
    · rw [hyx, upd_same] at hn
      cases hn
    · rw [upd_ne hyx] at hn
      exact h4 y hy hn
  · rw [upd_ne (Ne.symm hs)]
    rcases h5 with ⟨h6, h7⟩ | ⟨m, a, D, O, h6, h7, h8, h9, h10, h11, h12⟩
    · exact .inl ⟨h6, h7⟩
    · exact .inr ⟨m, a, D, O, h6, h7, h8.updX hx, h9, h10, h11, h12⟩
theorem s_forP {j : Nat} {Pr : V → Hp → Prop} (h : EvP tl σ H Pr) (k : ∀ v H1, Ex H H1 → Pr v H1 → ∃ (a : Addr) (xs : List V), v = .ref a ∧ SqL K H1 a xs ∧ ∃ Pv : Nat → L2.St → Hp → Prop, Pv 0 σ H1 ∧ (∀ i σ' H', i ≤ xs.length → Pv i σ' H' → SqL K H' a xs) ∧
    (∀ i x σ' H', xs[i]? = some x → Pv i σ' H' → tu { Ds with nx := Pv (i + 1), ct := Pv (i + 1), bk := Ds.nx } (σ'.set j (some x)) H') ∧ (∀ σ' H', Pv xs.length σ' H' → Ds.nx σ' H')) : tFor (iList K tl) (gName j) tu Ds σ H :=
  h H (Ex.refl H) _ fun v H1 e1 hv => by
    obtain ⟨a, xs, rfl, hx, Pv, h0, hl, hs, hd⟩ := k v H1 e1 hv
    exact ⟨a, rfl, ⟨xs, hx⟩, for_list (g := gName j) Pv h0 hl hs hd⟩
theorem q_forP {j : Nat} {Pr : V → Hp → Prop} (h : EvP tl σ H Pr) (k : ∀ v H1, Ex H H1 → Pr v H1 → ∃ (a : Addr) (xs : List V), v = .ref a ∧ SqL K H1 a xs ∧ ∃ Pv : Nat → L2.St → Hp → Prop, Pv 0 σ H1 ∧ (∀ i σ' H', i ≤ xs.length → Pv i σ' H' → SqL K H' a xs) ∧
    (∀ i x σ' H', xs[i]? = some x → Pv i σ' H' → tu { Ds with nx := Pv (i + 1), ct := Pv (i + 1), bk := tz Ds } (σ'.set j (some x)) H') ∧ (∀ σ' H', Pv xs.length σ' H' → tz Ds σ' H')) : tSeq (tFor (iList K tl) (gName j) tu) tz Ds σ H :=
  s_forP (Ds := { Ds with nx := tz Ds }) h k
/-- Session() -/
theorem ep_mkSess {CS : Addr} : EvP (tMake CS (sp_Session_new CS) [] C8.E0 tNil) σ H (fun v H' => ∃ p dx, v = .ref p ∧ H p = none ∧ H' p = some (.ins CS dx (seF .non))) := fun H1 e1 Q q => fun p dp hp hdp hne => by
  have n3 : Ex H1 (upd (upd H1 dp (.own p)) p (.ins CS dp [])) := (Ex.new hdp).trans (Ex.new (by rw [upd_ne (Ne.symm hne)]; exact hp))
  refine ⟨p, dp, rfl, upd_same, fun H3 e3 hX3 => ⟨rfl, ?_⟩⟩
  have e23 : Ex H1 H3 := fun x o ho => e3 x o (but_of (fun z => by
    rw [List.mem_singleton] at z
    rw [z, hp] at ho
    cases ho) (n3 x o ho))
  exact q _ H3 e23 ⟨p, dp, rfl, fresh_back e1 hp, hX3⟩
theorem q_appZ {l : Addr} {xs : List V} (hl : H l = some (.lst xs)) (ha : Ev ta σ H (.ref l)) (h : Ev te σ H v) (hz : xs.length < sizeLine) (k : ∀ H1, Ex H H1 → tz Ds σ (upd H1 l (.lst (xs ++ [v])))) :
    tSeq (tDrop (tBM K "list" rAppend ta (tCons te tNil))) tz Ds σ H := ha H (Ex.refl H) _ fun H1 e1 =>
  ⟨Or.inl ⟨rfl, xs, sq_of (e1 l _ hl)⟩, h H1 e1 _ fun H2 e2 => ⟨l, xs, v, rfl, rfl, e2 l _ (e1 l _ hl), hz, k H2 (e1.trans e2)⟩⟩
theorem s_extZ {l r : Addr} {xs zs : List V} (hl : H l = some (.lst xs)) (hr : H r = some (.lst zs)) (ha : Ev ta σ H (.ref l)) (h : Ev te σ H (.ref r)) (hz : xs.length + zs.length ≤ sizeLine) (k : ∀ H1, Ex H H1 → Ds.nx σ (upd H1 l (.lst (xs ++ zs)))) :
    tDrop (tBM K "list" rExtend ta (tCons te tNil)) Ds σ H := ha H (Ex.refl H) _ fun H1 e1 =>
  ⟨Or.inl ⟨rfl, xs, sq_of (e1 l _ hl)⟩, h H1 e1 _ fun H2 e2 => ⟨l, r, xs, zs, rfl, rfl, e2 l _ (e1 l _ hl), e2 r _ (e1 r _ hr), hz, k H2 (e1.trans e2)⟩⟩
theorem q_asgM {C dx : Addr} {mt : Str} {sp : Sp} {E : XK} {fs : List (Str × V)} {vs : List V} {i : Nat} (h : Ev ta σ H (.ref a)) (ho : H a = some (.ins C dx fs)) (hm : fs.lookup mt = none) (ht : EvA tas σ H vs)
    (k : ∀ H1, Ex H H1 → sp (.ref a :: (vs ++ [])) H1 (fun v H2 => tz Ds (σ.set i (some v)) H2) E) : tSeq (tAsg (tMeth C mt sp [] E ta tas) (gName i)) tz Ds σ H :=
  h H (Ex.refl H) _ fun H2 e2 => ⟨a, dx, fs, rfl, e2 a _ ho, hm, ht H2 e2 _ fun H3 e3 => k H3 (e2.trans e3)⟩
def sp_answers (K : PySem.W.Frag) : Sp := fun vs H Q _ => ∃ (a : Addr) (cs : List Cl), vs = [.ref a] ∧ SqL K H a (nvs (encs cs)) ∧ (∀ c ∈ cs, ClOk c) ∧ (encs cs).length ≤ 4400 ∧ (tells cs).2.length ≤ 10000000 ∧
  ∀ (H' : Hp) (p : Addr), H' p = some (.lst ((tells cs).2.map V.int)) → Q (.ref p) H'
def AnsInv (CI CS a s t : Addr) (Hc : Hp) (cs : List Cl) (k : Nat) (σ : L2.St) (H' : Hp) : Prop := (∃ x3 x4, σ = [some (.ref a), some (.ref s), some (.ref t), x3, x4]) ∧ Sess CI CS [s, t] Hc H' s (tells (cs.take k)).1 ∧ H' t = some (.lst ((tells (cs.take k)).2.map V.int))
abbrev s_answers : Stmt := topS 67
theorem sc_answers : FnScope ["calls", "session", "told", "call", "answer"] ["calls"] (C8.fnScope (topS 67)) := C8.fnScope_by (by decide +kernel)
theorem fn_answers (T : Txt K mg) (c_read_calls : C8.Cal P w K mg base 3 "read_calls" (sp_read_calls K T.aC) []) (m_carry_out : C8.Met P w K mg base 7 T.aS "carry_out" (sp_carry_out T.aI T.aC T.aS) []) (k_Session : C8.Mak P w K mg base 1 "Session" T.aS (sp_Session_new T.aS) []) {f : Addr} {fd : FuncData} (F : C8.Def K mg "answers" s_answers f fd) (b : Binds K fd ["calls"] []) : FnOk P w K mg base C8.CX0 8 f fd ["calls"] (sp_answers K) := by
  refine C8.fn0 F.fn sc_answers (fun vs H Q E h => ?_) (fun cdv A outer s H vs Q E hr h => ⟨_, (pss_cons (ps_set (i := 1) sc_answers.nd rfl (Or.inl rfl) (pe_mk0 k_Session hr (by decide) rfl))
  (pss_cons (ps_set (i := 2) sc_answers.nd rfl (Or.inl rfl) (pe_lst pa_nil))
  (pss_cons (ps_for PassesOwn.never rfl (pi_list (C8.pe_c c_read_calls hr (by decide) rfl (pa_cons (pv 0) pa_nil))) (pg_name (i := 3) sc_answers.nd rfl (Or.inl rfl))
  (pss_cons (ps_set (i := 4) sc_answers.nd rfl (Or.inl rfl) (C8.pe_mt m_carry_out hr (by decide) (pv 1) (pa_cons (pv 3) pa_nil)))
  (pss_cons (ps_expr (pe_bm PySem.F.plainAttrs_list PySem.F.slot_list_append PySem.F.type_list_append mt_append (pv 2) (pa_cons (pe_callB call_len_seq (by rfl) T.len PySem.boot_len (pa_cons (pv 4) pa_nil)) pa_nil)))
  (pss_one (ps_expr (pe_bm PySem.F.plainAttrs_list PySem.F.slot_list_extend PySem.F.type_list_extend mt_extend (pv 2) (pa_cons (pv 4) pa_nil)))))))
  (pss_one (ps_ret (pv 2)))))), ?_⟩)
  · obtain ⟨a, cs, rfl, _⟩ := h
    rfl
  · obtain ⟨a, cs, rfl, ha, hok, hlen, htl, q⟩ := h
    refine q_asgP ep_mkSess fun v H1 e1 hv => ?_
    obtain ⟨s, dxs, rfl, hsn, hs⟩ := hv
    refine q_asgL (xs := []) (el_lst ea_nil (by show 0 ≤ 100000; decide)) fun t H2 htn e2 ht => ?_
    have hts : t ≠ s := fun z => by
      rw [z, hs] at htn
      cases htn
    have ha2 := ex_l (e1.trans e2) ha
    refine q_forP (Pr := fun v H3 => ∃ F qs, v = .ref F ∧ H3 F = some (.lst (rfs qs)) ∧ H2 F = none ∧ CallsAt T.aC (nw H2 H3) qs cs) ?_ fun v H3 e3 hv => ?_
    · intro H3 e3 Q3 q3
      refine (ea_cons (ev_var rfl) ea_nil : EvA (tCons (tVar 0) tNil) _ H3 [.ref a]) H3 (Ex.refl H3) _ fun H4 e4 => ?_
      have E4 := e3.trans e4
      refine ⟨a, cs, rfl, ex_l E4 ha2, hok, hlen, fun H5 F qs hF e5 hl hc => q3 _ H5 (e4.trans e5) ⟨F, qs, rfl, hl, fresh_back E4 hF, hc.mono fun x o hx => ?_⟩⟩
      obtain ⟨y1, y2⟩ := nw_some hx
      rw [nw_none (fresh_back E4 y1)]
      exact y2
    · obtain ⟨F, qs, rfl, hF, hFn, hc⟩ := hv
      have hcx : ∀ x ∈ ([s, t] : List Addr), nw H2 H3 x = none := fun x hx => by
        simp only [List.mem_cons, List.not_mem_nil, or_false] at hx
        unfold nw
        rcases hx with z | z
        · rw [z, e2 s _ hs]
        · rw [z, ht]
      have hFc : nw H2 H3 F = some (.lst (rfs qs)) := by rw [nw_none hFn, hF]
      have hqc := plen hc
      refine ⟨F, rfs qs, rfl, sq_of hF, AnsInv T.aI T.aS a s t (nw H2 H3) cs, ⟨⟨none, none, rfl⟩, ⟨nw_ex, by simp, hcx, fun x hx hn => ?_, dxs, .inl ⟨rfl, e3 s _ (e2 s _ hs)⟩⟩, e3 t _ ht⟩, fun k σ' H' hk hp => sq_of (hp.2.1.ex F _ hFc), fun k x σ' H' hx hp => ?_, fun σ' H' hp => ?_⟩
      · simp only [List.mem_cons, List.not_mem_nil, or_false] at hx
        rcases hx with z | z
        · rw [z, e3 s _ (e2 s _ hs)] at hn
          cases hn
        · rw [z, e3 t _ ht] at hn
          cases hn
      · obtain ⟨⟨x3, x4, rfl⟩, S, hT⟩ := hp
        obtain ⟨qq, hq, rfl⟩ := rfs_get hx
        obtain ⟨c, hck, hca⟩ := pget' hc hq
        have hco := hok c (List.mem_of_getElem? hck)
        have hm := tells_more hck
        have hb := tells_len cs (k + 1)
        rw [hm] at hb
        revert S hT hb hm
        generalize tells (cs.take k) = z
        intro S hT hm hb
        obtain ⟨dx1, v0, hs1⟩ : ∃ dx v, H' s = some (.ins T.aS dx (seF v)) := by
          obtain ⟨_, _, _, _, dx, s5⟩ := S
          rcases s5 with ⟨_, h7⟩ | ⟨m, a, D, O, _, h7, _⟩
          · exact ⟨dx, _, h7⟩
          · exact ⟨dx, _, h7⟩
        refine q_asgM (vs := [.ref qq]) (ev_var rfl) hs1 rfl (ea_cons (ev_var rfl) ea_nil) fun H5 e5 => ?_
        refine ⟨[s, t], nw H2 H3, s, qq, z.1, c.1, c.2.1, c.2.2, rfl, S.mono e5, hca, hco.p18, hco.xs, hco.row, fun H6 r S6 kp hr hrc hl => ?_⟩
        have hT6 := kp t (by simp) hts _ (e5 t _ hT)
        unfold tell at hb hm
        dsimp only at hb hm
        revert S6 hl hb hm
        generalize stepS z.1 (opP c.1 c.2.1 c.2.2) = y
        intro hm hb S6 hl
        rw [List.length_append, List.length_cons] at hb
        have hsz : sizeLine = 16777216 := by decide
        have hrt : r ≠ t := fun w => hr (by simp [w])
        refine q_appZ (v := .int (y.2.length : Int)) hT6 (ev_var rfl) (ev_is (ev_lenL (ev_var rfl) hl) (by rw [List.length_map])) (by rw [List.length_map, hsz]; omega) fun H7 e7 => ?_
        refine s_extZ (l := t) (r := r) (xs := z.2.map V.int ++ [.int (y.2.length : Int)]) (zs := y.2.map V.int) upd_same (by rw [upd_ne hrt]; exact e7 r _ hl) (ev_var rfl) (ev_var rfl) (by rw [List.length_append, List.length_map, List.length_map, hsz]; show z.2.length + 1 + _ ≤ _; omega) fun H8 e8 => ?_
        unfold AnsInv
        rw [hm]
        refine ⟨⟨_, _, rfl⟩, ((S6.mono e7).updX (x := t) (by simp) hts |>.mono e8).updX (by simp) hts, ?_⟩
        rw [upd_same, List.append_assoc, List.map_append]
        rfl
      · obtain ⟨⟨x3, x4, rfl⟩, S, hT⟩ := hp
        have hk : cs.take (rfs qs).length = cs := by
          rw [List.length_map, hqc]
          exact List.take_length
        rw [hk] at hT
        exact s_ret (v := .ref t) (ev_var rfl) fun H4 e4 => q H4 t (e4 t _ hT)
end
end Tc
namespace Tc
open PySem PySem.Spec PyProof.Rows L2 Evl
/-! ## All defs, from what the top has written -/
def natsOk : List Value → List Nat → Bool
  | .int i _ :: vs, n :: ns => decide (i = (n : Int)) && natsOk vs ns
  | [], [] => true
  | _, _ => false
theorem natsOk_vals : ∀ {vs : List Value} {ns : List Nat}, natsOk vs ns = true → Vals (nvs ns) vs
  | [], [], _ => .nil
  | .int i t :: vs, n :: ns, h => by
    have h2 : (decide (i = (n : Int)) && natsOk vs ns) = true := h
    rw [Bool.and_eq_true] at h2
    have e := of_decide_eq_true h2.1
    subst e
    exact .cons ⟨t, rfl⟩ (natsOk_vals h2.2)
theorem sqT_lit {K : PySem.W.Frag} {a : Addr} {od : Option Addr} {its : Array Value} {n : Nat} {sl : Array (Option Value)} {ns : List Nat} (hl : K.lookup a = some ⟨.type "tuple", od, .seq its n, sl⟩) (h : natsOk its.toList ns = true) (hz : ns.length ≤ 100) (H : Hp) : SqT K H a (nvs ns) :=
  .inr ⟨_, its, n, hl, rfl, rfl, by
    have e : (nvs ns).length = its.toList.length := (natsOk_vals h).length
    have e1 : (nvs ns).length = ns.length := List.length_map ..
    have e2 : its.toList.length = its.size := Array.length_toList
    have e3 : sizeLine = 16777216 := by decide
    omega, natsOk_vals h⟩
def entOk (e : DictEntry) : Bool := match e.key with
  | .int i _ => decide (e.hash = hashInt i)
  | _ => false
def isRef : Option Value → Addr → Bool
  | some (.ref a), b => a == b
  | _, _ => false
def opsOk (es : Array DictEntry) (fs : List Addr) : Bool := es.toList.all entOk && (List.range fs.length).all fun i => isRef (findBy Value.isInt es ((i + 1 : Nat) : Int)) (fs.getD i 0)
theorem isRef_eq {o : Option Value} {a : Addr} (h : isRef o a = true) : o = some (.ref a) := by
  unfold isRef at h
  split at h
  · rename_i x b
    rw [eq_of_beq h]
  · cases h
theorem opIs_of {K : PySem.W.Frag} {D : Addr} {es : Array DictEntry} {n : Nat} {fs : List Addr} (hl : K.lookup D = some ⟨.type "dict", none, .dict es n, #[]⟩) (h : opsOk es fs = true) {i : Nat} {f : Addr} (hf : fs[i]? = some f) : OpIs K D ((i + 1 : Nat) : Int) f := by
  unfold opsOk at h
  rw [Bool.and_eq_true] at h
  have hi : i < fs.length := (List.getElem?_eq_some_iff.mp hf).1
  refine ⟨es, n, hl, fun e he => ?_, ?_⟩
  · have h1 := List.all_eq_true.mp h.1 e (Array.mem_toList_iff.mpr he)
    unfold entOk at h1
    split at h1
    · rename_i i t hk
      exact ⟨i, t, hk, of_decide_eq_true h1⟩
    · cases h1
  · have h2 := List.all_eq_true.mp h.2 i (List.mem_range.mpr hi)
    rw [List.getD_eq_getElem?_getD, hf] at h2
    exact isRef_eq h2
theorem cat_of {P : Program} {w : World} {K : PySem.W.Frag} {mg : Str → Option Value} {base : Heap} {k : Nat} {x : Str} {st : Stmt} {f : Addr} {fd : FuncData} {ps : List Str} {sp : Sp} (F : C8.Def K mg x st f fd) (b : Binds K fd ps []) (c : C8.Cal P w K mg base k x sp []) : C8.CalAt P w K mg base k f sp := by
  obtain ⟨f', fd', ps', ds, F', hm, kp, b', d⟩ := c.ex
  have e := hm.symm.trans F.mgf
  cases e
  cases d
  exact ⟨fd', ps', F', kp, b'⟩
theorem con_of {K : PySem.W.Frag} {h : Heap} {mg : Str → Option Value} {n : Str} {i : Int} {t : Tok} (X : K.In h) (G : h.Ns mainGlobals mg) (e : PySem.W.nsIn K mainGlobals n = some (some (.int i t))) : ∃ u, mg n = some u ∧ RelV (.int i) u := ⟨_, PySem.W.mg_of X G e, t, rfl⟩
theorem ref_of {K : PySem.W.Frag} {h : Heap} {mg : Str → Option Value} {n : Str} {a : Addr} (X : K.In h) (G : h.Ns mainGlobals mg) (e : PySem.W.nsIn K mainGlobals n = some (some (.ref a))) : ∃ u, mg n = some u ∧ RelV (.ref a) u := ⟨_, PySem.W.mg_of X G e, rfl⟩

theorem all_mk {P : Program} {w : World} {K : PySem.W.Frag} {h : Heap} {mg : Str → Option Value} {fa CC CI CS tN tL tD : Addr} (X : K.In h) (G : h.Ns mainGlobals mg) (hfa : mg "answers" = some (.ref fa))
    {u_DOMAIN_LIMIT u_FIRST_THAT_NEEDS_READY u_LAST_THAT_NEEDS_READY u_NO_INSTANCE u_NOT_READY u_NO_AGENT u_INVALID u_KNOWN_PREFERENCE u_LIMIT_REACHED u_NO_MANIPULATION u_CREATE : Tok} {odN odL : Option Addr} {isN isL : Array Value} {eN eL eD : Nat} {slN slL : Array (Option Value)} {esD : Array DictEntry}
    {f_Call_new : Addr} {od_Call_new an_Call_new : Option Addr} {sl_Call_new : Array (Option Value)} {oc_Call_new kV_Call_new dc_Call_new pm_Call_new cd_Call_new ct_Call_new : Value}
    {f_read_calls : Addr} {od_read_calls an_read_calls : Option Addr} {sl_read_calls : Array (Option Value)} {oc_read_calls kV_read_calls dc_read_calls pm_read_calls cd_read_calls ct_read_calls : Value}
    {f_every_choice : Addr} {od_every_choice an_every_choice : Option Addr} {sl_every_choice : Array (Option Value)} {oc_every_choice kV_every_choice dc_every_choice pm_every_choice cd_every_choice ct_every_choice : Value}
    {f_Instance_new : Addr} {od_Instance_new an_Instance_new : Option Addr} {sl_Instance_new : Array (Option Value)} {oc_Instance_new kV_Instance_new dc_Instance_new pm_Instance_new cd_Instance_new ct_Instance_new : Value}
    {f_Instance_is_ready : Addr} {od_Instance_is_ready an_Instance_is_ready : Option Addr} {sl_Instance_is_ready : Array (Option Value)} {oc_Instance_is_ready kV_Instance_is_ready dc_Instance_is_ready pm_Instance_is_ready cd_Instance_is_ready ct_Instance_is_ready : Value}
    {f_Instance_has_agent : Addr} {od_Instance_has_agent an_Instance_has_agent : Option Addr} {sl_Instance_has_agent : Array (Option Value)} {oc_Instance_has_agent kV_Instance_has_agent dc_Instance_has_agent pm_Instance_has_agent cd_Instance_has_agent ct_Instance_has_agent : Value}
    {f_Instance_has_alternative : Addr} {od_Instance_has_alternative an_Instance_has_alternative : Option Addr} {sl_Instance_has_alternative : Array (Option Value)} {oc_Instance_has_alternative kV_Instance_has_alternative dc_Instance_has_alternative pm_Instance_has_alternative cd_Instance_has_alternative ct_Instance_has_alternative : Value}
    {f_Instance_has_profile : Addr} {od_Instance_has_profile an_Instance_has_profile : Option Addr} {sl_Instance_has_profile : Array (Option Value)} {oc_Instance_has_profile kV_Instance_has_profile dc_Instance_has_profile pm_Instance_has_profile cd_Instance_has_profile ct_Instance_has_profile : Value}
    {f_Instance_replace_domain : Addr} {od_Instance_replace_domain an_Instance_replace_domain : Option Addr} {sl_Instance_replace_domain : Array (Option Value)} {oc_Instance_replace_domain kV_Instance_replace_domain dc_Instance_replace_domain pm_Instance_replace_domain cd_Instance_replace_domain ct_Instance_replace_domain : Value}
    {f_Instance_all_profiles : Addr} {od_Instance_all_profiles an_Instance_all_profiles : Option Addr} {sl_Instance_all_profiles : Array (Option Value)} {oc_Instance_all_profiles kV_Instance_all_profiles dc_Instance_all_profiles pm_Instance_all_profiles cd_Instance_all_profiles ct_Instance_all_profiles : Value}
    {f_Instance_reported_rankings : Addr} {od_Instance_reported_rankings an_Instance_reported_rankings : Option Addr} {sl_Instance_reported_rankings : Array (Option Value)} {oc_Instance_reported_rankings kV_Instance_reported_rankings dc_Instance_reported_rankings pm_Instance_reported_rankings cd_Instance_reported_rankings ct_Instance_reported_rankings : Value}
    {f_Instance_place_of : Addr} {od_Instance_place_of an_Instance_place_of : Option Addr} {sl_Instance_place_of : Array (Option Value)} {oc_Instance_place_of kV_Instance_place_of dc_Instance_place_of pm_Instance_place_of cd_Instance_place_of ct_Instance_place_of : Value}
    {f_Instance_step_of : Addr} {od_Instance_step_of an_Instance_step_of : Option Addr} {sl_Instance_step_of : Array (Option Value)} {oc_Instance_step_of kV_Instance_step_of dc_Instance_step_of pm_Instance_step_of cd_Instance_step_of ct_Instance_step_of : Value}
    {f_Instance_options : Addr} {od_Instance_options an_Instance_options : Option Addr} {sl_Instance_options : Array (Option Value)} {oc_Instance_options kV_Instance_options dc_Instance_options pm_Instance_options cd_Instance_options ct_Instance_options : Value}
    {f_is_ranking : Addr} {od_is_ranking an_is_ranking : Option Addr} {sl_is_ranking : Array (Option Value)} {oc_is_ranking kV_is_ranking dc_is_ranking pm_is_ranking cd_is_ranking ct_is_ranking : Value}
    {f_all_rankings : Addr} {od_all_rankings an_all_rankings : Option Addr} {sl_all_rankings : Array (Option Value)} {oc_all_rankings kV_all_rankings dc_all_rankings pm_all_rankings cd_all_rankings ct_all_rankings : Value}
    {f_prefers : Addr} {od_prefers an_prefers : Option Addr} {sl_prefers : Array (Option Value)} {oc_prefers kV_prefers dc_prefers pm_prefers cd_prefers ct_prefers : Value}
    {f_has_single_peak : Addr} {od_has_single_peak an_has_single_peak : Option Addr} {sl_has_single_peak : Array (Option Value)} {oc_has_single_peak kV_has_single_peak dc_has_single_peak pm_has_single_peak cd_has_single_peak ct_has_single_peak : Value}
    {f_mask_of : Addr} {od_mask_of an_mask_of : Option Addr} {sl_mask_of : Array (Option Value)} {oc_mask_of kV_mask_of dc_mask_of pm_mask_of cd_mask_of ct_mask_of : Value}
    {f_gaining_reports : Addr} {od_gaining_reports an_gaining_reports : Option Addr} {sl_gaining_reports : Array (Option Value)} {oc_gaining_reports kV_gaining_reports dc_gaining_reports pm_gaining_reports cd_gaining_reports ct_gaining_reports : Value}
    {f_first_manipulation : Addr} {od_first_manipulation an_first_manipulation : Option Addr} {sl_first_manipulation : Array (Option Value)} {oc_first_manipulation kV_first_manipulation dc_first_manipulation pm_first_manipulation cd_first_manipulation ct_first_manipulation : Value}
    {f_manipulation_count : Addr} {od_manipulation_count an_manipulation_count : Option Addr} {sl_manipulation_count : Array (Option Value)} {oc_manipulation_count kV_manipulation_count dc_manipulation_count pm_manipulation_count cd_manipulation_count ct_manipulation_count : Value}
    {f_is_dictator : Addr} {od_is_dictator an_is_dictator : Option Addr} {sl_is_dictator : Array (Option Value)} {oc_is_dictator kV_is_dictator dc_is_dictator pm_is_dictator cd_is_dictator ct_is_dictator : Value}
    {f_not_preferred : Addr} {od_not_preferred an_not_preferred : Option Addr} {sl_not_preferred : Array (Option Value)} {oc_not_preferred kV_not_preferred dc_not_preferred pm_not_preferred cd_not_preferred ct_not_preferred : Value}
    {f_not_preferred_by_alternative : Addr} {od_not_preferred_by_alternative an_not_preferred_by_alternative : Option Addr} {sl_not_preferred_by_alternative : Array (Option Value)} {oc_not_preferred_by_alternative kV_not_preferred_by_alternative dc_not_preferred_by_alternative pm_not_preferred_by_alternative cd_not_preferred_by_alternative ct_not_preferred_by_alternative : Value}
    {f_first_that_violates : Addr} {od_first_that_violates an_first_that_violates : Option Addr} {sl_first_that_violates : Array (Option Value)} {oc_first_that_violates kV_first_that_violates dc_first_that_violates pm_first_that_violates cd_first_that_violates ct_first_that_violates : Value}
    {f_first_monotonicity_violation : Addr} {od_first_monotonicity_violation an_first_monotonicity_violation : Option Addr} {sl_first_monotonicity_violation : Array (Option Value)} {oc_first_monotonicity_violation kV_first_monotonicity_violation dc_first_monotonicity_violation pm_first_monotonicity_violation cd_first_monotonicity_violation ct_first_monotonicity_violation : Value}
    {f_first_inefficiency : Addr} {od_first_inefficiency an_first_inefficiency : Option Addr} {sl_first_inefficiency : Array (Option Value)} {oc_first_inefficiency kV_first_inefficiency dc_first_inefficiency pm_first_inefficiency cd_first_inefficiency ct_first_inefficiency : Value}
    {f_dictatorship : Addr} {od_dictatorship an_dictatorship : Option Addr} {sl_dictatorship : Array (Option Value)} {oc_dictatorship kV_dictatorship dc_dictatorship pm_dictatorship cd_dictatorship ct_dictatorship : Value}
    {f_generalized_median : Addr} {od_generalized_median an_generalized_median : Option Addr} {sl_generalized_median : Array (Option Value)} {oc_generalized_median kV_generalized_median dc_generalized_median pm_generalized_median cd_generalized_median ct_generalized_median : Value}
    {f_lowest_with_most : Addr} {od_lowest_with_most an_lowest_with_most : Option Addr} {sl_lowest_with_most : Array (Option Value)} {oc_lowest_with_most kV_lowest_with_most dc_lowest_with_most pm_lowest_with_most cd_lowest_with_most ct_lowest_with_most : Value}
    {f_plurality : Addr} {od_plurality an_plurality : Option Addr} {sl_plurality : Array (Option Value)} {oc_plurality kV_plurality dc_plurality pm_plurality cd_plurality ct_plurality : Value}
    {f_borda : Addr} {od_borda an_borda : Option Addr} {sl_borda : Array (Option Value)} {oc_borda kV_borda dc_borda pm_borda cd_borda ct_borda : Value}
    {f_sequential_majority : Addr} {od_sequential_majority an_sequential_majority : Option Addr} {sl_sequential_majority : Array (Option Value)} {oc_sequential_majority kV_sequential_majority dc_sequential_majority pm_sequential_majority cd_sequential_majority ct_sequential_majority : Value}
    {f_add_preference : Addr} {od_add_preference an_add_preference : Option Addr} {sl_add_preference : Array (Option Value)} {oc_add_preference kV_add_preference dc_add_preference pm_add_preference cd_add_preference ct_add_preference : Value}
    {f_set_full_domain : Addr} {od_set_full_domain an_set_full_domain : Option Addr} {sl_set_full_domain : Array (Option Value)} {oc_set_full_domain kV_set_full_domain dc_set_full_domain pm_set_full_domain cd_set_full_domain ct_set_full_domain : Value}
    {f_set_outcome : Addr} {od_set_outcome an_set_outcome : Option Addr} {sl_set_outcome : Array (Option Value)} {oc_set_outcome kV_set_outcome dc_set_outcome pm_set_outcome cd_set_outcome ct_set_outcome : Value}
    {f_use_dictatorship : Addr} {od_use_dictatorship an_use_dictatorship : Option Addr} {sl_use_dictatorship : Array (Option Value)} {oc_use_dictatorship kV_use_dictatorship dc_use_dictatorship pm_use_dictatorship cd_use_dictatorship ct_use_dictatorship : Value}
    {f_use_generalized_median : Addr} {od_use_generalized_median an_use_generalized_median : Option Addr} {sl_use_generalized_median : Array (Option Value)} {oc_use_generalized_median kV_use_generalized_median dc_use_generalized_median pm_use_generalized_median cd_use_generalized_median ct_use_generalized_median : Value}
    {f_use_plurality : Addr} {od_use_plurality an_use_plurality : Option Addr} {sl_use_plurality : Array (Option Value)} {oc_use_plurality kV_use_plurality dc_use_plurality pm_use_plurality cd_use_plurality ct_use_plurality : Value}
    {f_use_borda : Addr} {od_use_borda an_use_borda : Option Addr} {sl_use_borda : Array (Option Value)} {oc_use_borda kV_use_borda dc_use_borda pm_use_borda cd_use_borda ct_use_borda : Value}
    {f_use_sequential_majority : Addr} {od_use_sequential_majority an_use_sequential_majority : Option Addr} {sl_use_sequential_majority : Array (Option Value)} {oc_use_sequential_majority kV_use_sequential_majority dc_use_sequential_majority pm_use_sequential_majority cd_use_sequential_majority ct_use_sequential_majority : Value}
    {f_outcome : Addr} {od_outcome an_outcome : Option Addr} {sl_outcome : Array (Option Value)} {oc_outcome kV_outcome dc_outcome pm_outcome cd_outcome ct_outcome : Value}
    {f_option_set : Addr} {od_option_set an_option_set : Option Addr} {sl_option_set : Array (Option Value)} {oc_option_set kV_option_set dc_option_set pm_option_set cd_option_set ct_option_set : Value}
    {f_find_manipulation : Addr} {od_find_manipulation an_find_manipulation : Option Addr} {sl_find_manipulation : Array (Option Value)} {oc_find_manipulation kV_find_manipulation dc_find_manipulation pm_find_manipulation cd_find_manipulation ct_find_manipulation : Value}
    {f_count_manipulations : Addr} {od_count_manipulations an_count_manipulations : Option Addr} {sl_count_manipulations : Array (Option Value)} {oc_count_manipulations kV_count_manipulations dc_count_manipulations pm_count_manipulations cd_count_manipulations ct_count_manipulations : Value}
    {f_outcome_range : Addr} {od_outcome_range an_outcome_range : Option Addr} {sl_outcome_range : Array (Option Value)} {oc_outcome_range kV_outcome_range dc_outcome_range pm_outcome_range cd_outcome_range ct_outcome_range : Value}
    {f_dictators : Addr} {od_dictators an_dictators : Option Addr} {sl_dictators : Array (Option Value)} {oc_dictators kV_dictators dc_dictators pm_dictators cd_dictators ct_dictators : Value}
    {f_found_or_not : Addr} {od_found_or_not an_found_or_not : Option Addr} {sl_found_or_not : Array (Option Value)} {oc_found_or_not kV_found_or_not dc_found_or_not pm_found_or_not cd_found_or_not ct_found_or_not : Value}
    {f_monotonicity_violation : Addr} {od_monotonicity_violation an_monotonicity_violation : Option Addr} {sl_monotonicity_violation : Array (Option Value)} {oc_monotonicity_violation kV_monotonicity_violation dc_monotonicity_violation pm_monotonicity_violation cd_monotonicity_violation ct_monotonicity_violation : Value}
    {f_inefficient_profile : Addr} {od_inefficient_profile an_inefficient_profile : Option Addr} {sl_inefficient_profile : Array (Option Value)} {oc_inefficient_profile kV_inefficient_profile dc_inefficient_profile pm_inefficient_profile cd_inefficient_profile ct_inefficient_profile : Value}
    {f_is_single_peaked : Addr} {od_is_single_peaked an_is_single_peaked : Option Addr} {sl_is_single_peaked : Array (Option Value)} {oc_is_single_peaked kV_is_single_peaked dc_is_single_peaked pm_is_single_peaked cd_is_single_peaked ct_is_single_peaked : Value}
    {f_describe : Addr} {od_describe an_describe : Option Addr} {sl_describe : Array (Option Value)} {oc_describe kV_describe dc_describe pm_describe cd_describe ct_describe : Value}
    {f_perform : Addr} {od_perform an_perform : Option Addr} {sl_perform : Array (Option Value)} {oc_perform kV_perform dc_perform pm_perform cd_perform ct_perform : Value}
    {f_Session_new : Addr} {od_Session_new an_Session_new : Option Addr} {sl_Session_new : Array (Option Value)} {oc_Session_new kV_Session_new dc_Session_new pm_Session_new cd_Session_new ct_Session_new : Value}
    {f_Session_carry_out : Addr} {od_Session_carry_out an_Session_carry_out : Option Addr} {sl_Session_carry_out : Array (Option Value)} {oc_Session_carry_out kV_Session_carry_out dc_Session_carry_out pm_Session_carry_out cd_Session_carry_out ct_Session_carry_out : Value}
    {f_Session_create : Addr} {od_Session_create an_Session_create : Option Addr} {sl_Session_create : Array (Option Value)} {oc_Session_create kV_Session_create dc_Session_create pm_Session_create cd_Session_create ct_Session_create : Value}
    {f_answers : Addr} {od_answers an_answers : Option Addr} {sl_answers : Array (Option Value)} {oc_answers kV_answers dc_answers pm_answers cd_answers ct_answers : Value}
    (nC : PySem.W.nsIn K mainGlobals "Call" = some (some (.ref CC)))
    (nI : PySem.W.nsIn K mainGlobals "Instance" = some (some (.ref CI)))
    (nS : PySem.W.nsIn K mainGlobals "Session" = some (some (.ref CS)))
    (nN : PySem.W.nsIn K mainGlobals "NUMBER_COUNTS" = some (some (.ref tN)))
    (nL : PySem.W.nsIn K mainGlobals "CALLS_WITH_LIST" = some (some (.ref tL)))
    (nD : PySem.W.nsIn K mainGlobals "OPERATIONS" = some (some (.ref tD)))
    (pgC : PySem.W.plainGet K CC Str.empty = true)
    (hdC : PySem.W.hasDictIn K CC = true)
    (poC : PySem.W.plainOver K CC = true)
    (saC : PySem.W.findIn K (.ref CC) "__setattr__" = some (some (.builtin "object.__setattr__")))
    (mkC : PySem.W.makesIn K CC = true)
    (kcC : PySem.W.keepIn K (.ref CC) = true)
    (pgI : PySem.W.plainGet K CI Str.empty = true)
    (hdI : PySem.W.hasDictIn K CI = true)
    (poI : PySem.W.plainOver K CI = true)
    (saI : PySem.W.findIn K (.ref CI) "__setattr__" = some (some (.builtin "object.__setattr__")))
    (mkI : PySem.W.makesIn K CI = true)
    (kcI : PySem.W.keepIn K (.ref CI) = true)
    (pgS : PySem.W.plainGet K CS Str.empty = true)
    (hdS : PySem.W.hasDictIn K CS = true)
    (poS : PySem.W.plainOver K CS = true)
    (saS : PySem.W.findIn K (.ref CS) "__setattr__" = some (some (.builtin "object.__setattr__")))
    (mkS : PySem.W.makesIn K CS = true)
    (kcS : PySem.W.keepIn K (.ref CS) = true)
    (atC_number : PySem.W.findIn K (.ref CC) "number" = some none)
    (atC_numbers : PySem.W.findIn K (.ref CC) "numbers" = some none)
    (atC_row : PySem.W.findIn K (.ref CC) "row" = some none)
    (atI_agent_count : PySem.W.findIn K (.ref CI) "agent_count" = some none)
    (atI_alternative_count : PySem.W.findIn K (.ref CI) "alternative_count" = some none)
    (atI_domains : PySem.W.findIn K (.ref CI) "domains" = some none)
    (atI_outcomes : PySem.W.findIn K (.ref CI) "outcomes" = some none)
    (atS_instance : PySem.W.findIn K (.ref CS) "instance" = some none)
    (bi_len : PySem.W.nsIn K mainGlobals "len" = some none)
    (bi_range : PySem.W.nsIn K mainGlobals "range" = some none)
    (bi_zip : PySem.W.nsIn K mainGlobals "zip" = some none)
    (bi_enumerate : PySem.W.nsIn K mainGlobals "enumerate" = some none)
    (bi_sorted : PySem.W.nsIn K mainGlobals "sorted" = some none)
    (bi_all : PySem.W.nsIn K mainGlobals "all" = some none)
    (bi_any : PySem.W.nsIn K mainGlobals "any" = some none)
    (bi_sum : PySem.W.nsIn K mainGlobals "sum" = some none)
    (bi_max : PySem.W.nsIn K mainGlobals "max" = some none)
    (bi_list : PySem.W.nsIn K mainGlobals "list" = some none)
    (bi_set : PySem.W.nsIn K mainGlobals "set" = some none)
    (co_DOMAIN_LIMIT : PySem.W.nsIn K mainGlobals "DOMAIN_LIMIT" = some (some (.int 6 u_DOMAIN_LIMIT)))
    (co_FIRST_THAT_NEEDS_READY : PySem.W.nsIn K mainGlobals "FIRST_THAT_NEEDS_READY" = some (some (.int 3 u_FIRST_THAT_NEEDS_READY)))
    (co_LAST_THAT_NEEDS_READY : PySem.W.nsIn K mainGlobals "LAST_THAT_NEEDS_READY" = some (some (.int 16 u_LAST_THAT_NEEDS_READY)))
    (co_NO_INSTANCE : PySem.W.nsIn K mainGlobals "NO_INSTANCE" = some (some (.int (-11) u_NO_INSTANCE)))
    (co_NOT_READY : PySem.W.nsIn K mainGlobals "NOT_READY" = some (some (.int (-16) u_NOT_READY)))
    (co_NO_AGENT : PySem.W.nsIn K mainGlobals "NO_AGENT" = some (some (.int (-2) u_NO_AGENT)))
    (co_INVALID : PySem.W.nsIn K mainGlobals "INVALID" = some (some (.int (-22) u_INVALID)))
    (co_KNOWN_PREFERENCE : PySem.W.nsIn K mainGlobals "KNOWN_PREFERENCE" = some (some (.int (-17) u_KNOWN_PREFERENCE)))
    (co_LIMIT_REACHED : PySem.W.nsIn K mainGlobals "LIMIT_REACHED" = some (some (.int (-28) u_LIMIT_REACHED)))
    (co_NO_MANIPULATION : PySem.W.nsIn K mainGlobals "NO_MANIPULATION" = some (some (.int (-33) u_NO_MANIPULATION)))
    (co_CREATE : PySem.W.nsIn K mainGlobals "CREATE" = some (some (.int 0 u_CREATE)))
    (lN : K.lookup tN = some ⟨.type "tuple", odN, .seq isN eN, slN⟩)
    (vN : natsOk isN.toList [2, 1, 1, 1, 1, 0, 0, 0, 0, 0, 1, 0, 1, 0, 0, 0, 0, 1, 0] = true)
    (lL : K.lookup tL = some ⟨.type "tuple", odL, .seq isL eL, slL⟩)
    (vL : natsOk isL.toList [1, 3, 5, 8, 9, 10] = true)
    (a_Call_new : PySem.W.findIn K (.ref CC) "__init__" = some (some (.ref f_Call_new)))
    (i_Call_new : PySem.W.isFn K (.ref f_Call_new) = true)
    (l_Call_new : K.lookup f_Call_new = some ⟨oc_Call_new, od_Call_new, .func (PySem.W.fnOf "__init__" "Call.__init__" (C8.fnArgs s_Call_new) (C8.fnBody s_Call_new) (C8.fnScope s_Call_new) .none kV_Call_new dc_Call_new pm_Call_new an_Call_new cd_Call_new ct_Call_new), sl_Call_new⟩)
    (c_Call_new : PySem.W.codeIn K cd_Call_new "Call.__init__" = true)
    (a_read_calls : PySem.W.nsIn K mainGlobals "read_calls" = some (some (.ref f_read_calls)))
    (l_read_calls : K.lookup f_read_calls = some ⟨oc_read_calls, od_read_calls, .func (PySem.W.fnOf "read_calls" "read_calls" (C8.fnArgs s_read_calls) (C8.fnBody s_read_calls) (C8.fnScope s_read_calls) .none kV_read_calls dc_read_calls pm_read_calls an_read_calls cd_read_calls ct_read_calls), sl_read_calls⟩)
    (c_read_calls : PySem.W.codeIn K cd_read_calls "read_calls" = true)
    (k_read_calls : PySem.W.keepIn K (.ref f_read_calls) = true)
    (a_every_choice : PySem.W.nsIn K mainGlobals "every_choice" = some (some (.ref f_every_choice)))
    (l_every_choice : K.lookup f_every_choice = some ⟨oc_every_choice, od_every_choice, .func (PySem.W.fnOf "every_choice" "every_choice" (C8.fnArgs s_every_choice) (C8.fnBody s_every_choice) (C8.fnScope s_every_choice) .none kV_every_choice dc_every_choice pm_every_choice an_every_choice cd_every_choice ct_every_choice), sl_every_choice⟩)
    (c_every_choice : PySem.W.codeIn K cd_every_choice "every_choice" = true)
    (k_every_choice : PySem.W.keepIn K (.ref f_every_choice) = true)
    (a_Instance_new : PySem.W.findIn K (.ref CI) "__init__" = some (some (.ref f_Instance_new)))
    (i_Instance_new : PySem.W.isFn K (.ref f_Instance_new) = true)
    (l_Instance_new : K.lookup f_Instance_new = some ⟨oc_Instance_new, od_Instance_new, .func (PySem.W.fnOf "__init__" "Instance.__init__" (C8.fnArgs s_Instance_new) (C8.fnBody s_Instance_new) (C8.fnScope s_Instance_new) .none kV_Instance_new dc_Instance_new pm_Instance_new an_Instance_new cd_Instance_new ct_Instance_new), sl_Instance_new⟩)
    (c_Instance_new : PySem.W.codeIn K cd_Instance_new "Instance.__init__" = true)
    (a_Instance_is_ready : PySem.W.findIn K (.ref CI) "is_ready" = some (some (.ref f_Instance_is_ready)))
    (i_Instance_is_ready : PySem.W.isFn K (.ref f_Instance_is_ready) = true)
    (l_Instance_is_ready : K.lookup f_Instance_is_ready = some ⟨oc_Instance_is_ready, od_Instance_is_ready, .func (PySem.W.fnOf "is_ready" "Instance.is_ready" (C8.fnArgs s_Instance_is_ready) (C8.fnBody s_Instance_is_ready) (C8.fnScope s_Instance_is_ready) .none kV_Instance_is_ready dc_Instance_is_ready pm_Instance_is_ready an_Instance_is_ready cd_Instance_is_ready ct_Instance_is_ready), sl_Instance_is_ready⟩)
    (c_Instance_is_ready : PySem.W.codeIn K cd_Instance_is_ready "Instance.is_ready" = true)
    (k_Instance_is_ready : PySem.W.keepIn K (.ref f_Instance_is_ready) = true)
    (a_Instance_has_agent : PySem.W.findIn K (.ref CI) "has_agent" = some (some (.ref f_Instance_has_agent)))
    (i_Instance_has_agent : PySem.W.isFn K (.ref f_Instance_has_agent) = true)
    (l_Instance_has_agent : K.lookup f_Instance_has_agent = some ⟨oc_Instance_has_agent, od_Instance_has_agent, .func (PySem.W.fnOf "has_agent" "Instance.has_agent" (C8.fnArgs s_Instance_has_agent) (C8.fnBody s_Instance_has_agent) (C8.fnScope s_Instance_has_agent) .none kV_Instance_has_agent dc_Instance_has_agent pm_Instance_has_agent an_Instance_has_agent cd_Instance_has_agent ct_Instance_has_agent), sl_Instance_has_agent⟩)
    (c_Instance_has_agent : PySem.W.codeIn K cd_Instance_has_agent "Instance.has_agent" = true)
    (k_Instance_has_agent : PySem.W.keepIn K (.ref f_Instance_has_agent) = true)
    (a_Instance_has_alternative : PySem.W.findIn K (.ref CI) "has_alternative" = some (some (.ref f_Instance_has_alternative)))
    (i_Instance_has_alternative : PySem.W.isFn K (.ref f_Instance_has_alternative) = true)
    (l_Instance_has_alternative : K.lookup f_Instance_has_alternative = some ⟨oc_Instance_has_alternative, od_Instance_has_alternative, .func (PySem.W.fnOf "has_alternative" "Instance.has_alternative" (C8.fnArgs s_Instance_has_alternative) (C8.fnBody s_Instance_has_alternative) (C8.fnScope s_Instance_has_alternative) .none kV_Instance_has_alternative dc_Instance_has_alternative pm_Instance_has_alternative an_Instance_has_alternative cd_Instance_has_alternative ct_Instance_has_alternative), sl_Instance_has_alternative⟩)
    (c_Instance_has_alternative : PySem.W.codeIn K cd_Instance_has_alternative "Instance.has_alternative" = true)
    (k_Instance_has_alternative : PySem.W.keepIn K (.ref f_Instance_has_alternative) = true)
    (a_Instance_has_profile : PySem.W.findIn K (.ref CI) "has_profile" = some (some (.ref f_Instance_has_profile)))
    (i_Instance_has_profile : PySem.W.isFn K (.ref f_Instance_has_profile) = true)
    (l_Instance_has_profile : K.lookup f_Instance_has_profile = some ⟨oc_Instance_has_profile, od_Instance_has_profile, .func (PySem.W.fnOf "has_profile" "Instance.has_profile" (C8.fnArgs s_Instance_has_profile) (C8.fnBody s_Instance_has_profile) (C8.fnScope s_Instance_has_profile) .none kV_Instance_has_profile dc_Instance_has_profile pm_Instance_has_profile an_Instance_has_profile cd_Instance_has_profile ct_Instance_has_profile), sl_Instance_has_profile⟩)
    (c_Instance_has_profile : PySem.W.codeIn K cd_Instance_has_profile "Instance.has_profile" = true)
    (k_Instance_has_profile : PySem.W.keepIn K (.ref f_Instance_has_profile) = true)
    (a_Instance_replace_domain : PySem.W.findIn K (.ref CI) "replace_domain" = some (some (.ref f_Instance_replace_domain)))
    (i_Instance_replace_domain : PySem.W.isFn K (.ref f_Instance_replace_domain) = true)
    (l_Instance_replace_domain : K.lookup f_Instance_replace_domain = some ⟨oc_Instance_replace_domain, od_Instance_replace_domain, .func (PySem.W.fnOf "replace_domain" "Instance.replace_domain" (C8.fnArgs s_Instance_replace_domain) (C8.fnBody s_Instance_replace_domain) (C8.fnScope s_Instance_replace_domain) .none kV_Instance_replace_domain dc_Instance_replace_domain pm_Instance_replace_domain an_Instance_replace_domain cd_Instance_replace_domain ct_Instance_replace_domain), sl_Instance_replace_domain⟩)
    (c_Instance_replace_domain : PySem.W.codeIn K cd_Instance_replace_domain "Instance.replace_domain" = true)
    (k_Instance_replace_domain : PySem.W.keepIn K (.ref f_Instance_replace_domain) = true)
    (a_Instance_all_profiles : PySem.W.findIn K (.ref CI) "all_profiles" = some (some (.ref f_Instance_all_profiles)))
    (i_Instance_all_profiles : PySem.W.isFn K (.ref f_Instance_all_profiles) = true)
    (l_Instance_all_profiles : K.lookup f_Instance_all_profiles = some ⟨oc_Instance_all_profiles, od_Instance_all_profiles, .func (PySem.W.fnOf "all_profiles" "Instance.all_profiles" (C8.fnArgs s_Instance_all_profiles) (C8.fnBody s_Instance_all_profiles) (C8.fnScope s_Instance_all_profiles) .none kV_Instance_all_profiles dc_Instance_all_profiles pm_Instance_all_profiles an_Instance_all_profiles cd_Instance_all_profiles ct_Instance_all_profiles), sl_Instance_all_profiles⟩)
    (c_Instance_all_profiles : PySem.W.codeIn K cd_Instance_all_profiles "Instance.all_profiles" = true)
    (k_Instance_all_profiles : PySem.W.keepIn K (.ref f_Instance_all_profiles) = true)
    (a_Instance_reported_rankings : PySem.W.findIn K (.ref CI) "reported_rankings" = some (some (.ref f_Instance_reported_rankings)))
    (i_Instance_reported_rankings : PySem.W.isFn K (.ref f_Instance_reported_rankings) = true)
    (l_Instance_reported_rankings : K.lookup f_Instance_reported_rankings = some ⟨oc_Instance_reported_rankings, od_Instance_reported_rankings, .func (PySem.W.fnOf "reported_rankings" "Instance.reported_rankings" (C8.fnArgs s_Instance_reported_rankings) (C8.fnBody s_Instance_reported_rankings) (C8.fnScope s_Instance_reported_rankings) .none kV_Instance_reported_rankings dc_Instance_reported_rankings pm_Instance_reported_rankings an_Instance_reported_rankings cd_Instance_reported_rankings ct_Instance_reported_rankings), sl_Instance_reported_rankings⟩)
    (c_Instance_reported_rankings : PySem.W.codeIn K cd_Instance_reported_rankings "Instance.reported_rankings" = true)
    (k_Instance_reported_rankings : PySem.W.keepIn K (.ref f_Instance_reported_rankings) = true)
    (a_Instance_place_of : PySem.W.findIn K (.ref CI) "place_of" = some (some (.ref f_Instance_place_of)))
    (i_Instance_place_of : PySem.W.isFn K (.ref f_Instance_place_of) = true)
    (l_Instance_place_of : K.lookup f_Instance_place_of = some ⟨oc_Instance_place_of, od_Instance_place_of, .func (PySem.W.fnOf "place_of" "Instance.place_of" (C8.fnArgs s_Instance_place_of) (C8.fnBody s_Instance_place_of) (C8.fnScope s_Instance_place_of) .none kV_Instance_place_of dc_Instance_place_of pm_Instance_place_of an_Instance_place_of cd_Instance_place_of ct_Instance_place_of), sl_Instance_place_of⟩)
    (c_Instance_place_of : PySem.W.codeIn K cd_Instance_place_of "Instance.place_of" = true)
    (k_Instance_place_of : PySem.W.keepIn K (.ref f_Instance_place_of) = true)
    (a_Instance_step_of : PySem.W.findIn K (.ref CI) "step_of" = some (some (.ref f_Instance_step_of)))
    (i_Instance_step_of : PySem.W.isFn K (.ref f_Instance_step_of) = true)
    (l_Instance_step_of : K.lookup f_Instance_step_of = some ⟨oc_Instance_step_of, od_Instance_step_of, .func (PySem.W.fnOf "step_of" "Instance.step_of" (C8.fnArgs s_Instance_step_of) (C8.fnBody s_Instance_step_of) (C8.fnScope s_Instance_step_of) .none kV_Instance_step_of dc_Instance_step_of pm_Instance_step_of an_Instance_step_of cd_Instance_step_of ct_Instance_step_of), sl_Instance_step_of⟩)
    (c_Instance_step_of : PySem.W.codeIn K cd_Instance_step_of "Instance.step_of" = true)
    (k_Instance_step_of : PySem.W.keepIn K (.ref f_Instance_step_of) = true)
    (a_Instance_options : PySem.W.findIn K (.ref CI) "options" = some (some (.ref f_Instance_options)))
    (i_Instance_options : PySem.W.isFn K (.ref f_Instance_options) = true)
    (l_Instance_options : K.lookup f_Instance_options = some ⟨oc_Instance_options, od_Instance_options, .func (PySem.W.fnOf "options" "Instance.options" (C8.fnArgs s_Instance_options) (C8.fnBody s_Instance_options) (C8.fnScope s_Instance_options) .none kV_Instance_options dc_Instance_options pm_Instance_options an_Instance_options cd_Instance_options ct_Instance_options), sl_Instance_options⟩)
    (c_Instance_options : PySem.W.codeIn K cd_Instance_options "Instance.options" = true)
    (k_Instance_options : PySem.W.keepIn K (.ref f_Instance_options) = true)
    (a_is_ranking : PySem.W.nsIn K mainGlobals "is_ranking" = some (some (.ref f_is_ranking)))
    (l_is_ranking : K.lookup f_is_ranking = some ⟨oc_is_ranking, od_is_ranking, .func (PySem.W.fnOf "is_ranking" "is_ranking" (C8.fnArgs s_is_ranking) (C8.fnBody s_is_ranking) (C8.fnScope s_is_ranking) .none kV_is_ranking dc_is_ranking pm_is_ranking an_is_ranking cd_is_ranking ct_is_ranking), sl_is_ranking⟩)
    (c_is_ranking : PySem.W.codeIn K cd_is_ranking "is_ranking" = true)
    (k_is_ranking : PySem.W.keepIn K (.ref f_is_ranking) = true)
    (a_all_rankings : PySem.W.nsIn K mainGlobals "all_rankings" = some (some (.ref f_all_rankings)))
    (l_all_rankings : K.lookup f_all_rankings = some ⟨oc_all_rankings, od_all_rankings, .func (PySem.W.fnOf "all_rankings" "all_rankings" (C8.fnArgs s_all_rankings) (C8.fnBody s_all_rankings) (C8.fnScope s_all_rankings) .none kV_all_rankings dc_all_rankings pm_all_rankings an_all_rankings cd_all_rankings ct_all_rankings), sl_all_rankings⟩)
    (c_all_rankings : PySem.W.codeIn K cd_all_rankings "all_rankings" = true)
    (k_all_rankings : PySem.W.keepIn K (.ref f_all_rankings) = true)
    (a_prefers : PySem.W.nsIn K mainGlobals "prefers" = some (some (.ref f_prefers)))
    (l_prefers : K.lookup f_prefers = some ⟨oc_prefers, od_prefers, .func (PySem.W.fnOf "prefers" "prefers" (C8.fnArgs s_prefers) (C8.fnBody s_prefers) (C8.fnScope s_prefers) .none kV_prefers dc_prefers pm_prefers an_prefers cd_prefers ct_prefers), sl_prefers⟩)
    (c_prefers : PySem.W.codeIn K cd_prefers "prefers" = true)
    (k_prefers : PySem.W.keepIn K (.ref f_prefers) = true)
    (a_has_single_peak : PySem.W.nsIn K mainGlobals "has_single_peak" = some (some (.ref f_has_single_peak)))
    (l_has_single_peak : K.lookup f_has_single_peak = some ⟨oc_has_single_peak, od_has_single_peak, .func (PySem.W.fnOf "has_single_peak" "has_single_peak" (C8.fnArgs s_has_single_peak) (C8.fnBody s_has_single_peak) (C8.fnScope s_has_single_peak) .none kV_has_single_peak dc_has_single_peak pm_has_single_peak an_has_single_peak cd_has_single_peak ct_has_single_peak), sl_has_single_peak⟩)
    (c_has_single_peak : PySem.W.codeIn K cd_has_single_peak "has_single_peak" = true)
    (k_has_single_peak : PySem.W.keepIn K (.ref f_has_single_peak) = true)
    (a_mask_of : PySem.W.nsIn K mainGlobals "mask_of" = some (some (.ref f_mask_of)))
    (l_mask_of : K.lookup f_mask_of = some ⟨oc_mask_of, od_mask_of, .func (PySem.W.fnOf "mask_of" "mask_of" (C8.fnArgs s_mask_of) (C8.fnBody s_mask_of) (C8.fnScope s_mask_of) .none kV_mask_of dc_mask_of pm_mask_of an_mask_of cd_mask_of ct_mask_of), sl_mask_of⟩)
    (c_mask_of : PySem.W.codeIn K cd_mask_of "mask_of" = true)
    (k_mask_of : PySem.W.keepIn K (.ref f_mask_of) = true)
    (a_gaining_reports : PySem.W.nsIn K mainGlobals "gaining_reports" = some (some (.ref f_gaining_reports)))
    (l_gaining_reports : K.lookup f_gaining_reports = some ⟨oc_gaining_reports, od_gaining_reports, .func (PySem.W.fnOf "gaining_reports" "gaining_reports" (C8.fnArgs s_gaining_reports) (C8.fnBody s_gaining_reports) (C8.fnScope s_gaining_reports) .none kV_gaining_reports dc_gaining_reports pm_gaining_reports an_gaining_reports cd_gaining_reports ct_gaining_reports), sl_gaining_reports⟩)
    (c_gaining_reports : PySem.W.codeIn K cd_gaining_reports "gaining_reports" = true)
    (k_gaining_reports : PySem.W.keepIn K (.ref f_gaining_reports) = true)
    (a_first_manipulation : PySem.W.nsIn K mainGlobals "first_manipulation" = some (some (.ref f_first_manipulation)))
    (l_first_manipulation : K.lookup f_first_manipulation = some ⟨oc_first_manipulation, od_first_manipulation, .func (PySem.W.fnOf "first_manipulation" "first_manipulation" (C8.fnArgs s_first_manipulation) (C8.fnBody s_first_manipulation) (C8.fnScope s_first_manipulation) .none kV_first_manipulation dc_first_manipulation pm_first_manipulation an_first_manipulation cd_first_manipulation ct_first_manipulation), sl_first_manipulation⟩)
    (c_first_manipulation : PySem.W.codeIn K cd_first_manipulation "first_manipulation" = true)
    (k_first_manipulation : PySem.W.keepIn K (.ref f_first_manipulation) = true)
    (a_manipulation_count : PySem.W.nsIn K mainGlobals "manipulation_count" = some (some (.ref f_manipulation_count)))
    (l_manipulation_count : K.lookup f_manipulation_count = some ⟨oc_manipulation_count, od_manipulation_count, .func (PySem.W.fnOf "manipulation_count" "manipulation_count" (C8.fnArgs s_manipulation_count) (C8.fnBody s_manipulation_count) (C8.fnScope s_manipulation_count) .none kV_manipulation_count dc_manipulation_count pm_manipulation_count an_manipulation_count cd_manipulation_count ct_manipulation_count), sl_manipulation_count⟩)
    (c_manipulation_count : PySem.W.codeIn K cd_manipulation_count "manipulation_count" = true)
    (k_manipulation_count : PySem.W.keepIn K (.ref f_manipulation_count) = true)
    (a_is_dictator : PySem.W.nsIn K mainGlobals "is_dictator" = some (some (.ref f_is_dictator)))
    (l_is_dictator : K.lookup f_is_dictator = some ⟨oc_is_dictator, od_is_dictator, .func (PySem.W.fnOf "is_dictator" "is_dictator" (C8.fnArgs s_is_dictator) (C8.fnBody s_is_dictator) (C8.fnScope s_is_dictator) .none kV_is_dictator dc_is_dictator pm_is_dictator an_is_dictator cd_is_dictator ct_is_dictator), sl_is_dictator⟩)
    (c_is_dictator : PySem.W.codeIn K cd_is_dictator "is_dictator" = true)
    (k_is_dictator : PySem.W.keepIn K (.ref f_is_dictator) = true)
    (a_not_preferred : PySem.W.nsIn K mainGlobals "not_preferred" = some (some (.ref f_not_preferred)))
    (l_not_preferred : K.lookup f_not_preferred = some ⟨oc_not_preferred, od_not_preferred, .func (PySem.W.fnOf "not_preferred" "not_preferred" (C8.fnArgs s_not_preferred) (C8.fnBody s_not_preferred) (C8.fnScope s_not_preferred) .none kV_not_preferred dc_not_preferred pm_not_preferred an_not_preferred cd_not_preferred ct_not_preferred), sl_not_preferred⟩)
    (c_not_preferred : PySem.W.codeIn K cd_not_preferred "not_preferred" = true)
    (k_not_preferred : PySem.W.keepIn K (.ref f_not_preferred) = true)
    (a_not_preferred_by_alternative : PySem.W.nsIn K mainGlobals "not_preferred_by_alternative" = some (some (.ref f_not_preferred_by_alternative)))
    (l_not_preferred_by_alternative : K.lookup f_not_preferred_by_alternative = some ⟨oc_not_preferred_by_alternative, od_not_preferred_by_alternative, .func (PySem.W.fnOf "not_preferred_by_alternative" "not_preferred_by_alternative" (C8.fnArgs s_not_preferred_by_alternative) (C8.fnBody s_not_preferred_by_alternative) (C8.fnScope s_not_preferred_by_alternative) .none kV_not_preferred_by_alternative dc_not_preferred_by_alternative pm_not_preferred_by_alternative an_not_preferred_by_alternative cd_not_preferred_by_alternative ct_not_preferred_by_alternative), sl_not_preferred_by_alternative⟩)
    (c_not_preferred_by_alternative : PySem.W.codeIn K cd_not_preferred_by_alternative "not_preferred_by_alternative" = true)
    (k_not_preferred_by_alternative : PySem.W.keepIn K (.ref f_not_preferred_by_alternative) = true)
    (a_first_that_violates : PySem.W.nsIn K mainGlobals "first_that_violates" = some (some (.ref f_first_that_violates)))
    (l_first_that_violates : K.lookup f_first_that_violates = some ⟨oc_first_that_violates, od_first_that_violates, .func (PySem.W.fnOf "first_that_violates" "first_that_violates" (C8.fnArgs s_first_that_violates) (C8.fnBody s_first_that_violates) (C8.fnScope s_first_that_violates) .none kV_first_that_violates dc_first_that_violates pm_first_that_violates an_first_that_violates cd_first_that_violates ct_first_that_violates), sl_first_that_violates⟩)
    (c_first_that_violates : PySem.W.codeIn K cd_first_that_violates "first_that_violates" = true)
    (k_first_that_violates : PySem.W.keepIn K (.ref f_first_that_violates) = true)
    (a_first_monotonicity_violation : PySem.W.nsIn K mainGlobals "first_monotonicity_violation" = some (some (.ref f_first_monotonicity_violation)))
    (l_first_monotonicity_violation : K.lookup f_first_monotonicity_violation = some ⟨oc_first_monotonicity_violation, od_first_monotonicity_violation, .func (PySem.W.fnOf "first_monotonicity_violation" "first_monotonicity_violation" (C8.fnArgs s_first_monotonicity_violation) (C8.fnBody s_first_monotonicity_violation) (C8.fnScope s_first_monotonicity_violation) .none kV_first_monotonicity_violation dc_first_monotonicity_violation pm_first_monotonicity_violation an_first_monotonicity_violation cd_first_monotonicity_violation ct_first_monotonicity_violation), sl_first_monotonicity_violation⟩)
    (c_first_monotonicity_violation : PySem.W.codeIn K cd_first_monotonicity_violation "first_monotonicity_violation" = true)
    (k_first_monotonicity_violation : PySem.W.keepIn K (.ref f_first_monotonicity_violation) = true)
    (a_first_inefficiency : PySem.W.nsIn K mainGlobals "first_inefficiency" = some (some (.ref f_first_inefficiency)))
    (l_first_inefficiency : K.lookup f_first_inefficiency = some ⟨oc_first_inefficiency, od_first_inefficiency, .func (PySem.W.fnOf "first_inefficiency" "first_inefficiency" (C8.fnArgs s_first_inefficiency) (C8.fnBody s_first_inefficiency) (C8.fnScope s_first_inefficiency) .none kV_first_inefficiency dc_first_inefficiency pm_first_inefficiency an_first_inefficiency cd_first_inefficiency ct_first_inefficiency), sl_first_inefficiency⟩)
    (c_first_inefficiency : PySem.W.codeIn K cd_first_inefficiency "first_inefficiency" = true)
    (k_first_inefficiency : PySem.W.keepIn K (.ref f_first_inefficiency) = true)
    (a_dictatorship : PySem.W.nsIn K mainGlobals "dictatorship" = some (some (.ref f_dictatorship)))
    (l_dictatorship : K.lookup f_dictatorship = some ⟨oc_dictatorship, od_dictatorship, .func (PySem.W.fnOf "dictatorship" "dictatorship" (C8.fnArgs s_dictatorship) (C8.fnBody s_dictatorship) (C8.fnScope s_dictatorship) .none kV_dictatorship dc_dictatorship pm_dictatorship an_dictatorship cd_dictatorship ct_dictatorship), sl_dictatorship⟩)
    (c_dictatorship : PySem.W.codeIn K cd_dictatorship "dictatorship" = true)
    (k_dictatorship : PySem.W.keepIn K (.ref f_dictatorship) = true)
    (a_generalized_median : PySem.W.nsIn K mainGlobals "generalized_median" = some (some (.ref f_generalized_median)))
    (l_generalized_median : K.lookup f_generalized_median = some ⟨oc_generalized_median, od_generalized_median, .func (PySem.W.fnOf "generalized_median" "generalized_median" (C8.fnArgs s_generalized_median) (C8.fnBody s_generalized_median) (C8.fnScope s_generalized_median) .none kV_generalized_median dc_generalized_median pm_generalized_median an_generalized_median cd_generalized_median ct_generalized_median), sl_generalized_median⟩)
    (c_generalized_median : PySem.W.codeIn K cd_generalized_median "generalized_median" = true)
    (k_generalized_median : PySem.W.keepIn K (.ref f_generalized_median) = true)
    (a_lowest_with_most : PySem.W.nsIn K mainGlobals "lowest_with_most" = some (some (.ref f_lowest_with_most)))
    (l_lowest_with_most : K.lookup f_lowest_with_most = some ⟨oc_lowest_with_most, od_lowest_with_most, .func (PySem.W.fnOf "lowest_with_most" "lowest_with_most" (C8.fnArgs s_lowest_with_most) (C8.fnBody s_lowest_with_most) (C8.fnScope s_lowest_with_most) .none kV_lowest_with_most dc_lowest_with_most pm_lowest_with_most an_lowest_with_most cd_lowest_with_most ct_lowest_with_most), sl_lowest_with_most⟩)
    (c_lowest_with_most : PySem.W.codeIn K cd_lowest_with_most "lowest_with_most" = true)
    (k_lowest_with_most : PySem.W.keepIn K (.ref f_lowest_with_most) = true)
    (a_plurality : PySem.W.nsIn K mainGlobals "plurality" = some (some (.ref f_plurality)))
    (l_plurality : K.lookup f_plurality = some ⟨oc_plurality, od_plurality, .func (PySem.W.fnOf "plurality" "plurality" (C8.fnArgs s_plurality) (C8.fnBody s_plurality) (C8.fnScope s_plurality) .none kV_plurality dc_plurality pm_plurality an_plurality cd_plurality ct_plurality), sl_plurality⟩)
    (c_plurality : PySem.W.codeIn K cd_plurality "plurality" = true)
    (k_plurality : PySem.W.keepIn K (.ref f_plurality) = true)
    (a_borda : PySem.W.nsIn K mainGlobals "borda" = some (some (.ref f_borda)))
    (l_borda : K.lookup f_borda = some ⟨oc_borda, od_borda, .func (PySem.W.fnOf "borda" "borda" (C8.fnArgs s_borda) (C8.fnBody s_borda) (C8.fnScope s_borda) .none kV_borda dc_borda pm_borda an_borda cd_borda ct_borda), sl_borda⟩)
    (c_borda : PySem.W.codeIn K cd_borda "borda" = true)
    (k_borda : PySem.W.keepIn K (.ref f_borda) = true)
    (a_sequential_majority : PySem.W.nsIn K mainGlobals "sequential_majority" = some (some (.ref f_sequential_majority)))
    (l_sequential_majority : K.lookup f_sequential_majority = some ⟨oc_sequential_majority, od_sequential_majority, .func (PySem.W.fnOf "sequential_majority" "sequential_majority" (C8.fnArgs s_sequential_majority) (C8.fnBody s_sequential_majority) (C8.fnScope s_sequential_majority) .none kV_sequential_majority dc_sequential_majority pm_sequential_majority an_sequential_majority cd_sequential_majority ct_sequential_majority), sl_sequential_majority⟩)
    (c_sequential_majority : PySem.W.codeIn K cd_sequential_majority "sequential_majority" = true)
    (k_sequential_majority : PySem.W.keepIn K (.ref f_sequential_majority) = true)
    (a_add_preference : PySem.W.nsIn K mainGlobals "add_preference" = some (some (.ref f_add_preference)))
    (l_add_preference : K.lookup f_add_preference = some ⟨oc_add_preference, od_add_preference, .func (PySem.W.fnOf "add_preference" "add_preference" (C8.fnArgs s_add_preference) (C8.fnBody s_add_preference) (C8.fnScope s_add_preference) .none kV_add_preference dc_add_preference pm_add_preference an_add_preference cd_add_preference ct_add_preference), sl_add_preference⟩)
    (c_add_preference : PySem.W.codeIn K cd_add_preference "add_preference" = true)
    (k_add_preference : PySem.W.keepIn K (.ref f_add_preference) = true)
    (a_set_full_domain : PySem.W.nsIn K mainGlobals "set_full_domain" = some (some (.ref f_set_full_domain)))
    (l_set_full_domain : K.lookup f_set_full_domain = some ⟨oc_set_full_domain, od_set_full_domain, .func (PySem.W.fnOf "set_full_domain" "set_full_domain" (C8.fnArgs s_set_full_domain) (C8.fnBody s_set_full_domain) (C8.fnScope s_set_full_domain) .none kV_set_full_domain dc_set_full_domain pm_set_full_domain an_set_full_domain cd_set_full_domain ct_set_full_domain), sl_set_full_domain⟩)
    (c_set_full_domain : PySem.W.codeIn K cd_set_full_domain "set_full_domain" = true)
    (k_set_full_domain : PySem.W.keepIn K (.ref f_set_full_domain) = true)
    (a_set_outcome : PySem.W.nsIn K mainGlobals "set_outcome" = some (some (.ref f_set_outcome)))
    (l_set_outcome : K.lookup f_set_outcome = some ⟨oc_set_outcome, od_set_outcome, .func (PySem.W.fnOf "set_outcome" "set_outcome" (C8.fnArgs s_set_outcome) (C8.fnBody s_set_outcome) (C8.fnScope s_set_outcome) .none kV_set_outcome dc_set_outcome pm_set_outcome an_set_outcome cd_set_outcome ct_set_outcome), sl_set_outcome⟩)
    (c_set_outcome : PySem.W.codeIn K cd_set_outcome "set_outcome" = true)
    (k_set_outcome : PySem.W.keepIn K (.ref f_set_outcome) = true)
    (a_use_dictatorship : PySem.W.nsIn K mainGlobals "use_dictatorship" = some (some (.ref f_use_dictatorship)))
    (l_use_dictatorship : K.lookup f_use_dictatorship = some ⟨oc_use_dictatorship, od_use_dictatorship, .func (PySem.W.fnOf "use_dictatorship" "use_dictatorship" (C8.fnArgs s_use_dictatorship) (C8.fnBody s_use_dictatorship) (C8.fnScope s_use_dictatorship) .none kV_use_dictatorship dc_use_dictatorship pm_use_dictatorship an_use_dictatorship cd_use_dictatorship ct_use_dictatorship), sl_use_dictatorship⟩)
    (c_use_dictatorship : PySem.W.codeIn K cd_use_dictatorship "use_dictatorship" = true)
    (k_use_dictatorship : PySem.W.keepIn K (.ref f_use_dictatorship) = true)
    (a_use_generalized_median : PySem.W.nsIn K mainGlobals "use_generalized_median" = some (some (.ref f_use_generalized_median)))
    (l_use_generalized_median : K.lookup f_use_generalized_median = some ⟨oc_use_generalized_median, od_use_generalized_median, .func (PySem.W.fnOf "use_generalized_median" "use_generalized_median" (C8.fnArgs s_use_generalized_median) (C8.fnBody s_use_generalized_median) (C8.fnScope s_use_generalized_median) .none kV_use_generalized_median dc_use_generalized_median pm_use_generalized_median an_use_generalized_median cd_use_generalized_median ct_use_generalized_median), sl_use_generalized_median⟩)
    (c_use_generalized_median : PySem.W.codeIn K cd_use_generalized_median "use_generalized_median" = true)
    (k_use_generalized_median : PySem.W.keepIn K (.ref f_use_generalized_median) = true)
    (a_use_plurality : PySem.W.nsIn K mainGlobals "use_plurality" = some (some (.ref f_use_plurality)))
    (l_use_plurality : K.lookup f_use_plurality = some ⟨oc_use_plurality, od_use_plurality, .func (PySem.W.fnOf "use_plurality" "use_plurality" (C8.fnArgs s_use_plurality) (C8.fnBody s_use_plurality) (C8.fnScope s_use_plurality) .none kV_use_plurality dc_use_plurality pm_use_plurality an_use_plurality cd_use_plurality ct_use_plurality), sl_use_plurality⟩)
    (c_use_plurality : PySem.W.codeIn K cd_use_plurality "use_plurality" = true)
    (k_use_plurality : PySem.W.keepIn K (.ref f_use_plurality) = true)
    (a_use_borda : PySem.W.nsIn K mainGlobals "use_borda" = some (some (.ref f_use_borda)))
    (l_use_borda : K.lookup f_use_borda = some ⟨oc_use_borda, od_use_borda, .func (PySem.W.fnOf "use_borda" "use_borda" (C8.fnArgs s_use_borda) (C8.fnBody s_use_borda) (C8.fnScope s_use_borda) .none kV_use_borda dc_use_borda pm_use_borda an_use_borda cd_use_borda ct_use_borda), sl_use_borda⟩)
    (c_use_borda : PySem.W.codeIn K cd_use_borda "use_borda" = true)
    (k_use_borda : PySem.W.keepIn K (.ref f_use_borda) = true)
    (a_use_sequential_majority : PySem.W.nsIn K mainGlobals "use_sequential_majority" = some (some (.ref f_use_sequential_majority)))
    (l_use_sequential_majority : K.lookup f_use_sequential_majority = some ⟨oc_use_sequential_majority, od_use_sequential_majority, .func (PySem.W.fnOf "use_sequential_majority" "use_sequential_majority" (C8.fnArgs s_use_sequential_majority) (C8.fnBody s_use_sequential_majority) (C8.fnScope s_use_sequential_majority) .none kV_use_sequential_majority dc_use_sequential_majority pm_use_sequential_majority an_use_sequential_majority cd_use_sequential_majority ct_use_sequential_majority), sl_use_sequential_majority⟩)
    (c_use_sequential_majority : PySem.W.codeIn K cd_use_sequential_majority "use_sequential_majority" = true)
    (k_use_sequential_majority : PySem.W.keepIn K (.ref f_use_sequential_majority) = true)
    (a_outcome : PySem.W.nsIn K mainGlobals "outcome" = some (some (.ref f_outcome)))
    (l_outcome : K.lookup f_outcome = some ⟨oc_outcome, od_outcome, .func (PySem.W.fnOf "outcome" "outcome" (C8.fnArgs s_outcome) (C8.fnBody s_outcome) (C8.fnScope s_outcome) .none kV_outcome dc_outcome pm_outcome an_outcome cd_outcome ct_outcome), sl_outcome⟩)
    (c_outcome : PySem.W.codeIn K cd_outcome "outcome" = true)
    (k_outcome : PySem.W.keepIn K (.ref f_outcome) = true)
    (a_option_set : PySem.W.nsIn K mainGlobals "option_set" = some (some (.ref f_option_set)))
    (l_option_set : K.lookup f_option_set = some ⟨oc_option_set, od_option_set, .func (PySem.W.fnOf "option_set" "option_set" (C8.fnArgs s_option_set) (C8.fnBody s_option_set) (C8.fnScope s_option_set) .none kV_option_set dc_option_set pm_option_set an_option_set cd_option_set ct_option_set), sl_option_set⟩)
    (c_option_set : PySem.W.codeIn K cd_option_set "option_set" = true)
    (k_option_set : PySem.W.keepIn K (.ref f_option_set) = true)
    (a_find_manipulation : PySem.W.nsIn K mainGlobals "find_manipulation" = some (some (.ref f_find_manipulation)))
    (l_find_manipulation : K.lookup f_find_manipulation = some ⟨oc_find_manipulation, od_find_manipulation, .func (PySem.W.fnOf "find_manipulation" "find_manipulation" (C8.fnArgs s_find_manipulation) (C8.fnBody s_find_manipulation) (C8.fnScope s_find_manipulation) .none kV_find_manipulation dc_find_manipulation pm_find_manipulation an_find_manipulation cd_find_manipulation ct_find_manipulation), sl_find_manipulation⟩)
    (c_find_manipulation : PySem.W.codeIn K cd_find_manipulation "find_manipulation" = true)
    (k_find_manipulation : PySem.W.keepIn K (.ref f_find_manipulation) = true)
    (a_count_manipulations : PySem.W.nsIn K mainGlobals "count_manipulations" = some (some (.ref f_count_manipulations)))
    (l_count_manipulations : K.lookup f_count_manipulations = some ⟨oc_count_manipulations, od_count_manipulations, .func (PySem.W.fnOf "count_manipulations" "count_manipulations" (C8.fnArgs s_count_manipulations) (C8.fnBody s_count_manipulations) (C8.fnScope s_count_manipulations) .none kV_count_manipulations dc_count_manipulations pm_count_manipulations an_count_manipulations cd_count_manipulations ct_count_manipulations), sl_count_manipulations⟩)
    (c_count_manipulations : PySem.W.codeIn K cd_count_manipulations "count_manipulations" = true)
    (k_count_manipulations : PySem.W.keepIn K (.ref f_count_manipulations) = true)
    (a_outcome_range : PySem.W.nsIn K mainGlobals "outcome_range" = some (some (.ref f_outcome_range)))
    (l_outcome_range : K.lookup f_outcome_range = some ⟨oc_outcome_range, od_outcome_range, .func (PySem.W.fnOf "outcome_range" "outcome_range" (C8.fnArgs s_outcome_range) (C8.fnBody s_outcome_range) (C8.fnScope s_outcome_range) .none kV_outcome_range dc_outcome_range pm_outcome_range an_outcome_range cd_outcome_range ct_outcome_range), sl_outcome_range⟩)
    (c_outcome_range : PySem.W.codeIn K cd_outcome_range "outcome_range" = true)
    (k_outcome_range : PySem.W.keepIn K (.ref f_outcome_range) = true)
    (a_dictators : PySem.W.nsIn K mainGlobals "dictators" = some (some (.ref f_dictators)))
    (l_dictators : K.lookup f_dictators = some ⟨oc_dictators, od_dictators, .func (PySem.W.fnOf "dictators" "dictators" (C8.fnArgs s_dictators) (C8.fnBody s_dictators) (C8.fnScope s_dictators) .none kV_dictators dc_dictators pm_dictators an_dictators cd_dictators ct_dictators), sl_dictators⟩)
    (c_dictators : PySem.W.codeIn K cd_dictators "dictators" = true)
    (k_dictators : PySem.W.keepIn K (.ref f_dictators) = true)
    (a_found_or_not : PySem.W.nsIn K mainGlobals "found_or_not" = some (some (.ref f_found_or_not)))
    (l_found_or_not : K.lookup f_found_or_not = some ⟨oc_found_or_not, od_found_or_not, .func (PySem.W.fnOf "found_or_not" "found_or_not" (C8.fnArgs s_found_or_not) (C8.fnBody s_found_or_not) (C8.fnScope s_found_or_not) .none kV_found_or_not dc_found_or_not pm_found_or_not an_found_or_not cd_found_or_not ct_found_or_not), sl_found_or_not⟩)
    (c_found_or_not : PySem.W.codeIn K cd_found_or_not "found_or_not" = true)
    (k_found_or_not : PySem.W.keepIn K (.ref f_found_or_not) = true)
    (a_monotonicity_violation : PySem.W.nsIn K mainGlobals "monotonicity_violation" = some (some (.ref f_monotonicity_violation)))
    (l_monotonicity_violation : K.lookup f_monotonicity_violation = some ⟨oc_monotonicity_violation, od_monotonicity_violation, .func (PySem.W.fnOf "monotonicity_violation" "monotonicity_violation" (C8.fnArgs s_monotonicity_violation) (C8.fnBody s_monotonicity_violation) (C8.fnScope s_monotonicity_violation) .none kV_monotonicity_violation dc_monotonicity_violation pm_monotonicity_violation an_monotonicity_violation cd_monotonicity_violation ct_monotonicity_violation), sl_monotonicity_violation⟩)
    (c_monotonicity_violation : PySem.W.codeIn K cd_monotonicity_violation "monotonicity_violation" = true)
    (k_monotonicity_violation : PySem.W.keepIn K (.ref f_monotonicity_violation) = true)
    (a_inefficient_profile : PySem.W.nsIn K mainGlobals "inefficient_profile" = some (some (.ref f_inefficient_profile)))
    (l_inefficient_profile : K.lookup f_inefficient_profile = some ⟨oc_inefficient_profile, od_inefficient_profile, .func (PySem.W.fnOf "inefficient_profile" "inefficient_profile" (C8.fnArgs s_inefficient_profile) (C8.fnBody s_inefficient_profile) (C8.fnScope s_inefficient_profile) .none kV_inefficient_profile dc_inefficient_profile pm_inefficient_profile an_inefficient_profile cd_inefficient_profile ct_inefficient_profile), sl_inefficient_profile⟩)
    (c_inefficient_profile : PySem.W.codeIn K cd_inefficient_profile "inefficient_profile" = true)
    (k_inefficient_profile : PySem.W.keepIn K (.ref f_inefficient_profile) = true)
    (a_is_single_peaked : PySem.W.nsIn K mainGlobals "is_single_peaked" = some (some (.ref f_is_single_peaked)))
    (l_is_single_peaked : K.lookup f_is_single_peaked = some ⟨oc_is_single_peaked, od_is_single_peaked, .func (PySem.W.fnOf "is_single_peaked" "is_single_peaked" (C8.fnArgs s_is_single_peaked) (C8.fnBody s_is_single_peaked) (C8.fnScope s_is_single_peaked) .none kV_is_single_peaked dc_is_single_peaked pm_is_single_peaked an_is_single_peaked cd_is_single_peaked ct_is_single_peaked), sl_is_single_peaked⟩)
    (c_is_single_peaked : PySem.W.codeIn K cd_is_single_peaked "is_single_peaked" = true)
    (k_is_single_peaked : PySem.W.keepIn K (.ref f_is_single_peaked) = true)
    (a_describe : PySem.W.nsIn K mainGlobals "describe" = some (some (.ref f_describe)))
    (l_describe : K.lookup f_describe = some ⟨oc_describe, od_describe, .func (PySem.W.fnOf "describe" "describe" (C8.fnArgs s_describe) (C8.fnBody s_describe) (C8.fnScope s_describe) .none kV_describe dc_describe pm_describe an_describe cd_describe ct_describe), sl_describe⟩)
    (c_describe : PySem.W.codeIn K cd_describe "describe" = true)
    (k_describe : PySem.W.keepIn K (.ref f_describe) = true)
    (a_perform : PySem.W.nsIn K mainGlobals "perform" = some (some (.ref f_perform)))
    (l_perform : K.lookup f_perform = some ⟨oc_perform, od_perform, .func (PySem.W.fnOf "perform" "perform" (C8.fnArgs s_perform) (C8.fnBody s_perform) (C8.fnScope s_perform) .none kV_perform dc_perform pm_perform an_perform cd_perform ct_perform), sl_perform⟩)
    (c_perform : PySem.W.codeIn K cd_perform "perform" = true)
    (k_perform : PySem.W.keepIn K (.ref f_perform) = true)
    (a_Session_new : PySem.W.findIn K (.ref CS) "__init__" = some (some (.ref f_Session_new)))
    (i_Session_new : PySem.W.isFn K (.ref f_Session_new) = true)
    (l_Session_new : K.lookup f_Session_new = some ⟨oc_Session_new, od_Session_new, .func (PySem.W.fnOf "__init__" "Session.__init__" (C8.fnArgs s_Session_new) (C8.fnBody s_Session_new) (C8.fnScope s_Session_new) .none kV_Session_new dc_Session_new pm_Session_new an_Session_new cd_Session_new ct_Session_new), sl_Session_new⟩)
    (c_Session_new : PySem.W.codeIn K cd_Session_new "Session.__init__" = true)
    (a_Session_carry_out : PySem.W.findIn K (.ref CS) "carry_out" = some (some (.ref f_Session_carry_out)))
    (i_Session_carry_out : PySem.W.isFn K (.ref f_Session_carry_out) = true)
    (l_Session_carry_out : K.lookup f_Session_carry_out = some ⟨oc_Session_carry_out, od_Session_carry_out, .func (PySem.W.fnOf "carry_out" "Session.carry_out" (C8.fnArgs s_Session_carry_out) (C8.fnBody s_Session_carry_out) (C8.fnScope s_Session_carry_out) .none kV_Session_carry_out dc_Session_carry_out pm_Session_carry_out an_Session_carry_out cd_Session_carry_out ct_Session_carry_out), sl_Session_carry_out⟩)
    (c_Session_carry_out : PySem.W.codeIn K cd_Session_carry_out "Session.carry_out" = true)
    (k_Session_carry_out : PySem.W.keepIn K (.ref f_Session_carry_out) = true)
    (a_Session_create : PySem.W.findIn K (.ref CS) "create" = some (some (.ref f_Session_create)))
    (i_Session_create : PySem.W.isFn K (.ref f_Session_create) = true)
    (l_Session_create : K.lookup f_Session_create = some ⟨oc_Session_create, od_Session_create, .func (PySem.W.fnOf "create" "Session.create" (C8.fnArgs s_Session_create) (C8.fnBody s_Session_create) (C8.fnScope s_Session_create) .none kV_Session_create dc_Session_create pm_Session_create an_Session_create cd_Session_create ct_Session_create), sl_Session_create⟩)
    (c_Session_create : PySem.W.codeIn K cd_Session_create "Session.create" = true)
    (k_Session_create : PySem.W.keepIn K (.ref f_Session_create) = true)
    (a_answers : PySem.W.nsIn K mainGlobals "answers" = some (some (.ref f_answers)))
    (l_answers : K.lookup f_answers = some ⟨oc_answers, od_answers, .func (PySem.W.fnOf "answers" "answers" (C8.fnArgs s_answers) (C8.fnBody s_answers) (C8.fnScope s_answers) .none kV_answers dc_answers pm_answers an_answers cd_answers ct_answers), sl_answers⟩)
    (c_answers : PySem.W.codeIn K cd_answers "answers" = true)
    (k_answers : PySem.W.keepIn K (.ref f_answers) = true)
    (lD : K.lookup tD = some ⟨.type "dict", none, .dict esD eD, #[]⟩)
    (vD : opsOk esD [f_add_preference, f_set_full_domain, f_set_outcome, f_use_dictatorship, f_use_generalized_median, f_use_plurality, f_use_borda, f_use_sequential_majority, f_outcome, f_option_set, f_find_manipulation, f_count_manipulations, f_outcome_range, f_dictators, f_monotonicity_violation, f_inefficient_profile, f_is_single_peaked, f_describe] = true)
    : ∃ fd : FuncData, (∀ (s : Shared) (us : List Value), us.length = (["calls"] : List Str).length → BindsTo s fd ⟨us, []⟩ ((["calls"] : List Str).zip us)) ∧ ∀ base : Heap, K.In base → base.Ns mainGlobals mg → FnOk P w K mg base C8.CX0 8 fa fd ["calls"] (sp_answers K) := by
  have e := hfa.symm.trans (PySem.W.mg_of X G a_answers)
  cases e
  obtain ⟨T, hC, hI, hS, hD⟩ : ∃ T : Txt K mg, T.aC = CC ∧ T.aI = CI ∧ T.aS = CS ∧ T.aD = tD := ⟨{ aC := CC, aI := CI, aS := CS, aN := tN, aL := tL, aD := tD, cC := ⟨pgC, hdC, poC, saC⟩, cI := ⟨pgI, hdI, poI, saI⟩, cS := ⟨pgS, hdS, poS, saS⟩, nC_number := atC_number, nC_numbers := atC_numbers, nC_row := atC_row, nI_agent_count := atI_agent_count, nI_alternative_count := atI_alternative_count, nI_domains := atI_domains, nI_outcomes := atI_outcomes, nS_instance := atS_instance, len := PySem.W.mg_none_of X G bi_len, range := PySem.W.mg_none_of X G bi_range, zip := PySem.W.mg_none_of X G bi_zip, enumerate := PySem.W.mg_none_of X G bi_enumerate, sorted := PySem.W.mg_none_of X G bi_sorted, all := PySem.W.mg_none_of X G bi_all, any := PySem.W.mg_none_of X G bi_any, sum := PySem.W.mg_none_of X G bi_sum, max := PySem.W.mg_none_of X G bi_max, list := PySem.W.mg_none_of X G bi_list, set := PySem.W.mg_none_of X G bi_set, g_DOMAIN_LIMIT := con_of X G co_DOMAIN_LIMIT, g_FIRST_THAT_NEEDS_READY := con_of X G co_FIRST_THAT_NEEDS_READY, g_LAST_THAT_NEEDS_READY := con_of X G co_LAST_THAT_NEEDS_READY, g_NO_INSTANCE := con_of X G co_NO_INSTANCE, g_NOT_READY := con_of X G co_NOT_READY, g_NO_AGENT := con_of X G co_NO_AGENT, g_INVALID := con_of X G co_INVALID, g_KNOWN_PREFERENCE := con_of X G co_KNOWN_PREFERENCE, g_LIMIT_REACHED := con_of X G co_LIMIT_REACHED, g_NO_MANIPULATION := con_of X G co_NO_MANIPULATION, g_CREATE := con_of X G co_CREATE, g_NUMBER_COUNTS := ref_of X G nN, sN := sqT_lit lN vN (by decide), g_CALLS_WITH_LIST := ref_of X G nL, sL := sqT_lit lL vL (by decide), g_OPERATIONS := ref_of X G nD }, rfl, rfl, rfl, rfl⟩
  subst hC hI hS hD
  have F_Call_new : C8.Fun K "__init__" "Call.__init__" s_Call_new f_Call_new _ := ⟨_, _, _, _, _, _, _, _, _, _, rfl, l_Call_new, c_Call_new⟩
  have b_Call_new := F_Call_new.binds rfl (ps := ["self", "number", "numbers", "row"]) fun _ _ _ _ _ _ us hl => match us, hl with | [_, _, _, _], _ => rfl
  have F_read_calls : C8.Def K mg "read_calls" s_read_calls f_read_calls _ := ⟨⟨_, _, _, _, _, _, _, _, _, _, rfl, l_read_calls, c_read_calls⟩, PySem.W.mg_of X G a_read_calls, k_read_calls⟩
  have b_read_calls := F_read_calls.fn.binds rfl (ps := ["calls"]) fun _ _ _ _ _ _ us hl => match us, hl with | [_], _ => rfl
  have F_every_choice : C8.Def K mg "every_choice" s_every_choice f_every_choice _ := ⟨⟨_, _, _, _, _, _, _, _, _, _, rfl, l_every_choice, c_every_choice⟩, PySem.W.mg_of X G a_every_choice, k_every_choice⟩
  have b_every_choice := F_every_choice.fn.binds rfl (ps := ["lists"]) fun _ _ _ _ _ _ us hl => match us, hl with | [_], _ => rfl
  have F_Instance_new : C8.Fun K "__init__" "Instance.__init__" s_Instance_new f_Instance_new _ := ⟨_, _, _, _, _, _, _, _, _, _, rfl, l_Instance_new, c_Instance_new⟩
  have b_Instance_new := F_Instance_new.binds rfl (ps := ["self", "agent_count", "alternative_count"]) fun _ _ _ _ _ _ us hl => match us, hl with | [_, _, _], _ => rfl
  have F_Instance_is_ready : C8.Fun K "is_ready" "Instance.is_ready" s_Instance_is_ready f_Instance_is_ready _ := ⟨_, _, _, _, _, _, _, _, _, _, rfl, l_Instance_is_ready, c_Instance_is_ready⟩
  have b_Instance_is_ready := F_Instance_is_ready.binds rfl (ps := ["self"]) fun _ _ _ _ _ _ us hl => match us, hl with | [_], _ => rfl
  have F_Instance_has_agent : C8.Fun K "has_agent" "Instance.has_agent" s_Instance_has_agent f_Instance_has_agent _ := ⟨_, _, _, _, _, _, _, _, _, _, rfl, l_Instance_has_agent, c_Instance_has_agent⟩
  have b_Instance_has_agent := F_Instance_has_agent.binds rfl (ps := ["self", "agent"]) fun _ _ _ _ _ _ us hl => match us, hl with | [_, _], _ => rfl
  have F_Instance_has_alternative : C8.Fun K "has_alternative" "Instance.has_alternative" s_Instance_has_alternative f_Instance_has_alternative _ := ⟨_, _, _, _, _, _, _, _, _, _, rfl, l_Instance_has_alternative, c_Instance_has_alternative⟩
  have b_Instance_has_alternative := F_Instance_has_alternative.binds rfl (ps := ["self", "alternative"]) fun _ _ _ _ _ _ us hl => match us, hl with | [_, _], _ => rfl
  have F_Instance_has_profile : C8.Fun K "has_profile" "Instance.has_profile" s_Instance_has_profile f_Instance_has_profile _ := ⟨_, _, _, _, _, _, _, _, _, _, rfl, l_Instance_has_profile, c_Instance_has_profile⟩
  have b_Instance_has_profile := F_Instance_has_profile.binds rfl (ps := ["self", "row"]) fun _ _ _ _ _ _ us hl => match us, hl with | [_, _], _ => rfl
  have F_Instance_replace_domain : C8.Fun K "replace_domain" "Instance.replace_domain" s_Instance_replace_domain f_Instance_replace_domain _ := ⟨_, _, _, _, _, _, _, _, _, _, rfl, l_Instance_replace_domain, c_Instance_replace_domain⟩
  have b_Instance_replace_domain := F_Instance_replace_domain.binds rfl (ps := ["self", "agent", "domain"]) fun _ _ _ _ _ _ us hl => match us, hl with | [_, _, _], _ => rfl
  have F_Instance_all_profiles : C8.Fun K "all_profiles" "Instance.all_profiles" s_Instance_all_profiles f_Instance_all_profiles _ := ⟨_, _, _, _, _, _, _, _, _, _, rfl, l_Instance_all_profiles, c_Instance_all_profiles⟩
  have b_Instance_all_profiles := F_Instance_all_profiles.binds rfl (ps := ["self"]) fun _ _ _ _ _ _ us hl => match us, hl with | [_], _ => rfl
  have F_Instance_reported_rankings : C8.Fun K "reported_rankings" "Instance.reported_rankings" s_Instance_reported_rankings f_Instance_reported_rankings _ := ⟨_, _, _, _, _, _, _, _, _, _, rfl, l_Instance_reported_rankings, c_Instance_reported_rankings⟩
  have b_Instance_reported_rankings := F_Instance_reported_rankings.binds rfl (ps := ["self"]) fun _ _ _ _ _ _ us hl => match us, hl with | [_], _ => rfl
  have F_Instance_place_of : C8.Fun K "place_of" "Instance.place_of" s_Instance_place_of f_Instance_place_of _ := ⟨_, _, _, _, _, _, _, _, _, _, rfl, l_Instance_place_of, c_Instance_place_of⟩
  have b_Instance_place_of := F_Instance_place_of.binds rfl (ps := ["self", "profile"]) fun _ _ _ _ _ _ us hl => match us, hl with | [_, _], _ => rfl
  have F_Instance_step_of : C8.Fun K "step_of" "Instance.step_of" s_Instance_step_of f_Instance_step_of _ := ⟨_, _, _, _, _, _, _, _, _, _, rfl, l_Instance_step_of, c_Instance_step_of⟩
  have b_Instance_step_of := F_Instance_step_of.binds rfl (ps := ["self", "agent"]) fun _ _ _ _ _ _ us hl => match us, hl with | [_, _], _ => rfl
  have F_Instance_options : C8.Fun K "options" "Instance.options" s_Instance_options f_Instance_options _ := ⟨_, _, _, _, _, _, _, _, _, _, rfl, l_Instance_options, c_Instance_options⟩
  have b_Instance_options := F_Instance_options.binds rfl (ps := ["self", "agent", "profile"]) fun _ _ _ _ _ _ us hl => match us, hl with | [_, _, _], _ => rfl
  have F_is_ranking : C8.Def K mg "is_ranking" s_is_ranking f_is_ranking _ := ⟨⟨_, _, _, _, _, _, _, _, _, _, rfl, l_is_ranking, c_is_ranking⟩, PySem.W.mg_of X G a_is_ranking, k_is_ranking⟩
  have b_is_ranking := F_is_ranking.fn.binds rfl (ps := ["row", "alternative_count"]) fun _ _ _ _ _ _ us hl => match us, hl with | [_, _], _ => rfl
  have F_all_rankings : C8.Def K mg "all_rankings" s_all_rankings f_all_rankings _ := ⟨⟨_, _, _, _, _, _, _, _, _, _, rfl, l_all_rankings, c_all_rankings⟩, PySem.W.mg_of X G a_all_rankings, k_all_rankings⟩
  have b_all_rankings := F_all_rankings.fn.binds rfl (ps := ["alternative_count"]) fun _ _ _ _ _ _ us hl => match us, hl with | [_], _ => rfl
  have F_prefers : C8.Def K mg "prefers" s_prefers f_prefers _ := ⟨⟨_, _, _, _, _, _, _, _, _, _, rfl, l_prefers, c_prefers⟩, PySem.W.mg_of X G a_prefers, k_prefers⟩
  have b_prefers := F_prefers.fn.binds rfl (ps := ["ranking", "one", "other"]) fun _ _ _ _ _ _ us hl => match us, hl with | [_, _, _], _ => rfl
  have F_has_single_peak : C8.Def K mg "has_single_peak" s_has_single_peak f_has_single_peak _ := ⟨⟨_, _, _, _, _, _, _, _, _, _, rfl, l_has_single_peak, c_has_single_peak⟩, PySem.W.mg_of X G a_has_single_peak, k_has_single_peak⟩
  have b_has_single_peak := F_has_single_peak.fn.binds rfl (ps := ["ranking"]) fun _ _ _ _ _ _ us hl => match us, hl with | [_], _ => rfl
  have F_mask_of : C8.Def K mg "mask_of" s_mask_of f_mask_of _ := ⟨⟨_, _, _, _, _, _, _, _, _, _, rfl, l_mask_of, c_mask_of⟩, PySem.W.mg_of X G a_mask_of, k_mask_of⟩
  have b_mask_of := F_mask_of.fn.binds rfl (ps := ["alternatives"]) fun _ _ _ _ _ _ us hl => match us, hl with | [_], _ => rfl
  have F_gaining_reports : C8.Def K mg "gaining_reports" s_gaining_reports f_gaining_reports _ := ⟨⟨_, _, _, _, _, _, _, _, _, _, rfl, l_gaining_reports, c_gaining_reports⟩, PySem.W.mg_of X G a_gaining_reports, k_gaining_reports⟩
  have b_gaining_reports := F_gaining_reports.fn.binds rfl (ps := ["instance", "agent", "profile"]) fun _ _ _ _ _ _ us hl => match us, hl with | [_, _, _], _ => rfl
  have F_first_manipulation : C8.Def K mg "first_manipulation" s_first_manipulation f_first_manipulation _ := ⟨⟨_, _, _, _, _, _, _, _, _, _, rfl, l_first_manipulation, c_first_manipulation⟩, PySem.W.mg_of X G a_first_manipulation, k_first_manipulation⟩
  have b_first_manipulation := F_first_manipulation.fn.binds rfl (ps := ["instance"]) fun _ _ _ _ _ _ us hl => match us, hl with | [_], _ => rfl
  have F_manipulation_count : C8.Def K mg "manipulation_count" s_manipulation_count f_manipulation_count _ := ⟨⟨_, _, _, _, _, _, _, _, _, _, rfl, l_manipulation_count, c_manipulation_count⟩, PySem.W.mg_of X G a_manipulation_count, k_manipulation_count⟩
  have b_manipulation_count := F_manipulation_count.fn.binds rfl (ps := ["instance", "agent"]) fun _ _ _ _ _ _ us hl => match us, hl with | [_, _], _ => rfl
  have F_is_dictator : C8.Def K mg "is_dictator" s_is_dictator f_is_dictator _ := ⟨⟨_, _, _, _, _, _, _, _, _, _, rfl, l_is_dictator, c_is_dictator⟩, PySem.W.mg_of X G a_is_dictator, k_is_dictator⟩
  have b_is_dictator := F_is_dictator.fn.binds rfl (ps := ["instance", "agent"]) fun _ _ _ _ _ _ us hl => match us, hl with | [_, _], _ => rfl
  have F_not_preferred : C8.Def K mg "not_preferred" s_not_preferred f_not_preferred _ := ⟨⟨_, _, _, _, _, _, _, _, _, _, rfl, l_not_preferred, c_not_preferred⟩, PySem.W.mg_of X G a_not_preferred, k_not_preferred⟩
  have b_not_preferred := F_not_preferred.fn.binds rfl (ps := ["reported", "alternative"]) fun _ _ _ _ _ _ us hl => match us, hl with | [_, _], _ => rfl
  have F_not_preferred_by_alternative : C8.Def K mg "not_preferred_by_alternative" s_not_preferred_by_alternative f_not_preferred_by_alternative _ := ⟨⟨_, _, _, _, _, _, _, _, _, _, rfl, l_not_preferred_by_alternative, c_not_preferred_by_alternative⟩, PySem.W.mg_of X G a_not_preferred_by_alternative, k_not_preferred_by_alternative⟩
  have b_not_preferred_by_alternative := F_not_preferred_by_alternative.fn.binds rfl (ps := ["instance"]) fun _ _ _ _ _ _ us hl => match us, hl with | [_], _ => rfl
  have F_first_that_violates : C8.Def K mg "first_that_violates" s_first_that_violates f_first_that_violates _ := ⟨⟨_, _, _, _, _, _, _, _, _, _, rfl, l_first_that_violates, c_first_that_violates⟩, PySem.W.mg_of X G a_first_that_violates, k_first_that_violates⟩
  have b_first_that_violates := F_first_that_violates.fn.binds rfl (ps := ["place", "outcomes", "masks"]) fun _ _ _ _ _ _ us hl => match us, hl with | [_, _, _], _ => rfl
  have F_first_monotonicity_violation : C8.Def K mg "first_monotonicity_violation" s_first_monotonicity_violation f_first_monotonicity_violation _ := ⟨⟨_, _, _, _, _, _, _, _, _, _, rfl, l_first_monotonicity_violation, c_first_monotonicity_violation⟩, PySem.W.mg_of X G a_first_monotonicity_violation, k_first_monotonicity_violation⟩
  have b_first_monotonicity_violation := F_first_monotonicity_violation.fn.binds rfl (ps := ["instance"]) fun _ _ _ _ _ _ us hl => match us, hl with | [_], _ => rfl
  have F_first_inefficiency : C8.Def K mg "first_inefficiency" s_first_inefficiency f_first_inefficiency _ := ⟨⟨_, _, _, _, _, _, _, _, _, _, rfl, l_first_inefficiency, c_first_inefficiency⟩, PySem.W.mg_of X G a_first_inefficiency, k_first_inefficiency⟩
  have b_first_inefficiency := F_first_inefficiency.fn.binds rfl (ps := ["instance"]) fun _ _ _ _ _ _ us hl => match us, hl with | [_], _ => rfl
  have F_dictatorship : C8.Def K mg "dictatorship" s_dictatorship f_dictatorship _ := ⟨⟨_, _, _, _, _, _, _, _, _, _, rfl, l_dictatorship, c_dictatorship⟩, PySem.W.mg_of X G a_dictatorship, k_dictatorship⟩
  have b_dictatorship := F_dictatorship.fn.binds rfl (ps := ["reported", "agent"]) fun _ _ _ _ _ _ us hl => match us, hl with | [_, _], _ => rfl
  have F_generalized_median : C8.Def K mg "generalized_median" s_generalized_median f_generalized_median _ := ⟨⟨_, _, _, _, _, _, _, _, _, _, rfl, l_generalized_median, c_generalized_median⟩, PySem.W.mg_of X G a_generalized_median, k_generalized_median⟩
  have b_generalized_median := F_generalized_median.fn.binds rfl (ps := ["reported", "phantoms"]) fun _ _ _ _ _ _ us hl => match us, hl with | [_, _], _ => rfl
  have F_lowest_with_most : C8.Def K mg "lowest_with_most" s_lowest_with_most f_lowest_with_most _ := ⟨⟨_, _, _, _, _, _, _, _, _, _, rfl, l_lowest_with_most, c_lowest_with_most⟩, PySem.W.mg_of X G a_lowest_with_most, k_lowest_with_most⟩
  have b_lowest_with_most := F_lowest_with_most.fn.binds rfl (ps := ["scores"]) fun _ _ _ _ _ _ us hl => match us, hl with | [_], _ => rfl
  have F_plurality : C8.Def K mg "plurality" s_plurality f_plurality _ := ⟨⟨_, _, _, _, _, _, _, _, _, _, rfl, l_plurality, c_plurality⟩, PySem.W.mg_of X G a_plurality, k_plurality⟩
  have b_plurality := F_plurality.fn.binds rfl (ps := ["reported"]) fun _ _ _ _ _ _ us hl => match us, hl with | [_], _ => rfl
  have F_borda : C8.Def K mg "borda" s_borda f_borda _ := ⟨⟨_, _, _, _, _, _, _, _, _, _, rfl, l_borda, c_borda⟩, PySem.W.mg_of X G a_borda, k_borda⟩
  have b_borda := F_borda.fn.binds rfl (ps := ["reported"]) fun _ _ _ _ _ _ us hl => match us, hl with | [_], _ => rfl
  have F_sequential_majority : C8.Def K mg "sequential_majority" s_sequential_majority f_sequential_majority _ := ⟨⟨_, _, _, _, _, _, _, _, _, _, rfl, l_sequential_majority, c_sequential_majority⟩, PySem.W.mg_of X G a_sequential_majority, k_sequential_majority⟩
  have b_sequential_majority := F_sequential_majority.fn.binds rfl (ps := ["reported", "agenda"]) fun _ _ _ _ _ _ us hl => match us, hl with | [_, _], _ => rfl
  have F_add_preference : C8.Def K mg "add_preference" s_add_preference f_add_preference _ := ⟨⟨_, _, _, _, _, _, _, _, _, _, rfl, l_add_preference, c_add_preference⟩, PySem.W.mg_of X G a_add_preference, k_add_preference⟩
  have b_add_preference := F_add_preference.fn.binds rfl (ps := ["instance", "call"]) fun _ _ _ _ _ _ us hl => match us, hl with | [_, _], _ => rfl
  have F_set_full_domain : C8.Def K mg "set_full_domain" s_set_full_domain f_set_full_domain _ := ⟨⟨_, _, _, _, _, _, _, _, _, _, rfl, l_set_full_domain, c_set_full_domain⟩, PySem.W.mg_of X G a_set_full_domain, k_set_full_domain⟩
  have b_set_full_domain := F_set_full_domain.fn.binds rfl (ps := ["instance", "call"]) fun _ _ _ _ _ _ us hl => match us, hl with | [_, _], _ => rfl
  have F_set_outcome : C8.Def K mg "set_outcome" s_set_outcome f_set_outcome _ := ⟨⟨_, _, _, _, _, _, _, _, _, _, rfl, l_set_outcome, c_set_outcome⟩, PySem.W.mg_of X G a_set_outcome, k_set_outcome⟩
  have b_set_outcome := F_set_outcome.fn.binds rfl (ps := ["instance", "call"]) fun _ _ _ _ _ _ us hl => match us, hl with | [_, _], _ => rfl
  have F_use_dictatorship : C8.Def K mg "use_dictatorship" s_use_dictatorship f_use_dictatorship _ := ⟨⟨_, _, _, _, _, _, _, _, _, _, rfl, l_use_dictatorship, c_use_dictatorship⟩, PySem.W.mg_of X G a_use_dictatorship, k_use_dictatorship⟩
  have b_use_dictatorship := F_use_dictatorship.fn.binds rfl (ps := ["instance", "call"]) fun _ _ _ _ _ _ us hl => match us, hl with | [_, _], _ => rfl
  have F_use_generalized_median : C8.Def K mg "use_generalized_median" s_use_generalized_median f_use_generalized_median _ := ⟨⟨_, _, _, _, _, _, _, _, _, _, rfl, l_use_generalized_median, c_use_generalized_median⟩, PySem.W.mg_of X G a_use_generalized_median, k_use_generalized_median⟩
  have b_use_generalized_median := F_use_generalized_median.fn.binds rfl (ps := ["instance", "call"]) fun _ _ _ _ _ _ us hl => match us, hl with | [_, _], _ => rfl
  have F_use_plurality : C8.Def K mg "use_plurality" s_use_plurality f_use_plurality _ := ⟨⟨_, _, _, _, _, _, _, _, _, _, rfl, l_use_plurality, c_use_plurality⟩, PySem.W.mg_of X G a_use_plurality, k_use_plurality⟩
  have b_use_plurality := F_use_plurality.fn.binds rfl (ps := ["instance", "call"]) fun _ _ _ _ _ _ us hl => match us, hl with | [_, _], _ => rfl
  have F_use_borda : C8.Def K mg "use_borda" s_use_borda f_use_borda _ := ⟨⟨_, _, _, _, _, _, _, _, _, _, rfl, l_use_borda, c_use_borda⟩, PySem.W.mg_of X G a_use_borda, k_use_borda⟩
  have b_use_borda := F_use_borda.fn.binds rfl (ps := ["instance", "call"]) fun _ _ _ _ _ _ us hl => match us, hl with | [_, _], _ => rfl
  have F_use_sequential_majority : C8.Def K mg "use_sequential_majority" s_use_sequential_majority f_use_sequential_majority _ := ⟨⟨_, _, _, _, _, _, _, _, _, _, rfl, l_use_sequential_majority, c_use_sequential_majority⟩, PySem.W.mg_of X G a_use_sequential_majority, k_use_sequential_majority⟩
  have b_use_sequential_majority := F_use_sequential_majority.fn.binds rfl (ps := ["instance", "call"]) fun _ _ _ _ _ _ us hl => match us, hl with | [_, _], _ => rfl
  have F_outcome : C8.Def K mg "outcome" s_outcome f_outcome _ := ⟨⟨_, _, _, _, _, _, _, _, _, _, rfl, l_outcome, c_outcome⟩, PySem.W.mg_of X G a_outcome, k_outcome⟩
  have b_outcome := F_outcome.fn.binds rfl (ps := ["instance", "call"]) fun _ _ _ _ _ _ us hl => match us, hl with | [_, _], _ => rfl
  have F_option_set : C8.Def K mg "option_set" s_option_set f_option_set _ := ⟨⟨_, _, _, _, _, _, _, _, _, _, rfl, l_option_set, c_option_set⟩, PySem.W.mg_of X G a_option_set, k_option_set⟩
  have b_option_set := F_option_set.fn.binds rfl (ps := ["instance", "call"]) fun _ _ _ _ _ _ us hl => match us, hl with | [_, _], _ => rfl
  have F_find_manipulation : C8.Def K mg "find_manipulation" s_find_manipulation f_find_manipulation _ := ⟨⟨_, _, _, _, _, _, _, _, _, _, rfl, l_find_manipulation, c_find_manipulation⟩, PySem.W.mg_of X G a_find_manipulation, k_find_manipulation⟩
  have b_find_manipulation := F_find_manipulation.fn.binds rfl (ps := ["instance", "call"]) fun _ _ _ _ _ _ us hl => match us, hl with | [_, _], _ => rfl
  have F_count_manipulations : C8.Def K mg "count_manipulations" s_count_manipulations f_count_manipulations _ := ⟨⟨_, _, _, _, _, _, _, _, _, _, rfl, l_count_manipulations, c_count_manipulations⟩, PySem.W.mg_of X G a_count_manipulations, k_count_manipulations⟩
  have b_count_manipulations := F_count_manipulations.fn.binds rfl (ps := ["instance", "call"]) fun _ _ _ _ _ _ us hl => match us, hl with | [_, _], _ => rfl
  have F_outcome_range : C8.Def K mg "outcome_range" s_outcome_range f_outcome_range _ := ⟨⟨_, _, _, _, _, _, _, _, _, _, rfl, l_outcome_range, c_outcome_range⟩, PySem.W.mg_of X G a_outcome_range, k_outcome_range⟩
  have b_outcome_range := F_outcome_range.fn.binds rfl (ps := ["instance", "call"]) fun _ _ _ _ _ _ us hl => match us, hl with | [_, _], _ => rfl
  have F_dictators : C8.Def K mg "dictators" s_dictators f_dictators _ := ⟨⟨_, _, _, _, _, _, _, _, _, _, rfl, l_dictators, c_dictators⟩, PySem.W.mg_of X G a_dictators, k_dictators⟩
  have b_dictators := F_dictators.fn.binds rfl (ps := ["instance", "call"]) fun _ _ _ _ _ _ us hl => match us, hl with | [_, _], _ => rfl
  have F_found_or_not : C8.Def K mg "found_or_not" s_found_or_not f_found_or_not _ := ⟨⟨_, _, _, _, _, _, _, _, _, _, rfl, l_found_or_not, c_found_or_not⟩, PySem.W.mg_of X G a_found_or_not, k_found_or_not⟩
  have b_found_or_not := F_found_or_not.fn.binds rfl (ps := ["found"]) fun _ _ _ _ _ _ us hl => match us, hl with | [_], _ => rfl
  have F_monotonicity_violation : C8.Def K mg "monotonicity_violation" s_monotonicity_violation f_monotonicity_violation _ := ⟨⟨_, _, _, _, _, _, _, _, _, _, rfl, l_monotonicity_violation, c_monotonicity_violation⟩, PySem.W.mg_of X G a_monotonicity_violation, k_monotonicity_violation⟩
  have b_monotonicity_violation := F_monotonicity_violation.fn.binds rfl (ps := ["instance", "call"]) fun _ _ _ _ _ _ us hl => match us, hl with | [_, _], _ => rfl
  have F_inefficient_profile : C8.Def K mg "inefficient_profile" s_inefficient_profile f_inefficient_profile _ := ⟨⟨_, _, _, _, _, _, _, _, _, _, rfl, l_inefficient_profile, c_inefficient_profile⟩, PySem.W.mg_of X G a_inefficient_profile, k_inefficient_profile⟩
  have b_inefficient_profile := F_inefficient_profile.fn.binds rfl (ps := ["instance", "call"]) fun _ _ _ _ _ _ us hl => match us, hl with | [_, _], _ => rfl
  have F_is_single_peaked : C8.Def K mg "is_single_peaked" s_is_single_peaked f_is_single_peaked _ := ⟨⟨_, _, _, _, _, _, _, _, _, _, rfl, l_is_single_peaked, c_is_single_peaked⟩, PySem.W.mg_of X G a_is_single_peaked, k_is_single_peaked⟩
  have b_is_single_peaked := F_is_single_peaked.fn.binds rfl (ps := ["instance", "call"]) fun _ _ _ _ _ _ us hl => match us, hl with | [_, _], _ => rfl
  have F_describe : C8.Def K mg "describe" s_describe f_describe _ := ⟨⟨_, _, _, _, _, _, _, _, _, _, rfl, l_describe, c_describe⟩, PySem.W.mg_of X G a_describe, k_describe⟩
  have b_describe := F_describe.fn.binds rfl (ps := ["instance", "call"]) fun _ _ _ _ _ _ us hl => match us, hl with | [_, _], _ => rfl
  have F_perform : C8.Def K mg "perform" s_perform f_perform _ := ⟨⟨_, _, _, _, _, _, _, _, _, _, rfl, l_perform, c_perform⟩, PySem.W.mg_of X G a_perform, k_perform⟩
  have b_perform := F_perform.fn.binds rfl (ps := ["instance", "call"]) fun _ _ _ _ _ _ us hl => match us, hl with | [_, _], _ => rfl
  have F_Session_new : C8.Fun K "__init__" "Session.__init__" s_Session_new f_Session_new _ := ⟨_, _, _, _, _, _, _, _, _, _, rfl, l_Session_new, c_Session_new⟩
  have b_Session_new := F_Session_new.binds rfl (ps := ["self"]) fun _ _ _ _ _ _ us hl => match us, hl with | [_], _ => rfl
  have F_Session_carry_out : C8.Fun K "carry_out" "Session.carry_out" s_Session_carry_out f_Session_carry_out _ := ⟨_, _, _, _, _, _, _, _, _, _, rfl, l_Session_carry_out, c_Session_carry_out⟩
  have b_Session_carry_out := F_Session_carry_out.binds rfl (ps := ["self", "call"]) fun _ _ _ _ _ _ us hl => match us, hl with | [_, _], _ => rfl
  have F_Session_create : C8.Fun K "create" "Session.create" s_Session_create f_Session_create _ := ⟨_, _, _, _, _, _, _, _, _, _, rfl, l_Session_create, c_Session_create⟩
  have b_Session_create := F_Session_create.binds rfl (ps := ["self", "agent_count", "alternative_count"]) fun _ _ _ _ _ _ us hl => match us, hl with | [_, _, _], _ => rfl
  have F_answers : C8.Def K mg "answers" s_answers fa _ := ⟨⟨_, _, _, _, _, _, _, _, _, _, rfl, l_answers, c_answers⟩, PySem.W.mg_of X G a_answers, k_answers⟩
  have b_answers := F_answers.fn.binds rfl (ps := ["calls"]) fun _ _ _ _ _ _ us hl => match us, hl with | [_], _ => rfl
  refine ⟨PySem.W.fnOf "answers" "answers" (C8.fnArgs s_answers) (C8.fnBody s_answers) (C8.fnScope s_answers) .none kV_answers dc_answers pm_answers an_answers cd_answers ct_answers, fun s us hu => match us, hu with | [_], _ => .of_eq rfl, fun base _ _ => ?_⟩
  have x_k_Call := mak_Call (P := P) (w := w) (base := base) T  F_Call_new b_Call_new ⟨mkC, a_Call_new, i_Call_new, kcC⟩ (PySem.W.mg_of X G nC)
  have x_k_Instance := mak_Instance (P := P) (w := w) (base := base) T  F_Instance_new b_Instance_new ⟨mkI, a_Instance_new, i_Instance_new, kcI⟩ (PySem.W.mg_of X G nI)
  have x_m_has_agent := met_has_agent (P := P) (w := w) (base := base) T  F_Instance_has_agent b_Instance_has_agent ⟨a_Instance_has_agent, i_Instance_has_agent, k_Instance_has_agent⟩
  have x_m_has_alternative := met_has_alternative (P := P) (w := w) (base := base) T  F_Instance_has_alternative b_Instance_has_alternative ⟨a_Instance_has_alternative, i_Instance_has_alternative, k_Instance_has_alternative⟩
  have x_m_has_profile := met_has_profile (P := P) (w := w) (base := base) T  F_Instance_has_profile b_Instance_has_profile ⟨a_Instance_has_profile, i_Instance_has_profile, k_Instance_has_profile⟩
  have x_m_is_ready := met_is_ready (P := P) (w := w) (base := base) T  F_Instance_is_ready b_Instance_is_ready ⟨a_Instance_is_ready, i_Instance_is_ready, k_Instance_is_ready⟩
  have x_m_place_of := met_place_of (P := P) (w := w) (base := base) T  F_Instance_place_of b_Instance_place_of ⟨a_Instance_place_of, i_Instance_place_of, k_Instance_place_of⟩
  have x_m_step_of := met_step_of (P := P) (w := w) (base := base) T  F_Instance_step_of b_Instance_step_of ⟨a_Instance_step_of, i_Instance_step_of, k_Instance_step_of⟩
  have x_k_Session := mak_Session (P := P) (w := w) (base := base) T  F_Session_new b_Session_new ⟨mkS, a_Session_new, i_Session_new, kcS⟩ (PySem.W.mg_of X G nS)
  have x_c_all_rankings := cal_all_rankings (P := P) (w := w) (base := base) T  F_all_rankings b_all_rankings
  have x_c_describe := cal_describe (P := P) (w := w) (base := base) T  F_describe b_describe
  have x_c_dictatorship := cal_dictatorship (P := P) (w := w) (base := base) T  F_dictatorship b_dictatorship
  have x_c_every_choice := cal_every_choice (P := P) (w := w) (base := base) T  F_every_choice b_every_choice
  have x_c_first_that_violates := cal_first_that_violates (P := P) (w := w) (base := base) T  F_first_that_violates b_first_that_violates
  have x_c_found_or_not := cal_found_or_not (P := P) (w := w) (base := base) T  F_found_or_not b_found_or_not
  have x_c_generalized_median := cal_generalized_median (P := P) (w := w) (base := base) T  F_generalized_median b_generalized_median
  have x_c_is_ranking := cal_is_ranking (P := P) (w := w) (base := base) T  F_is_ranking b_is_ranking
  have x_c_lowest_with_most := cal_lowest_with_most (P := P) (w := w) (base := base) T  F_lowest_with_most b_lowest_with_most
  have x_c_mask_of := cal_mask_of (P := P) (w := w) (base := base) T  F_mask_of b_mask_of
  have x_c_prefers := cal_prefers (P := P) (w := w) (base := base) T  F_prefers b_prefers
  have x_m_all_profiles := met_all_profiles (P := P) (w := w) (base := base) T (c_every_choice := x_c_every_choice) F_Instance_all_profiles b_Instance_all_profiles ⟨a_Instance_all_profiles, i_Instance_all_profiles, k_Instance_all_profiles⟩
  have x_m_options := met_options (P := P) (w := w) (base := base) T (m_place_of := x_m_place_of) (m_step_of := x_m_step_of) F_Instance_options b_Instance_options ⟨a_Instance_options, i_Instance_options, k_Instance_options⟩
  have x_m_reported_rankings := met_reported_rankings (P := P) (w := w) (base := base) T (c_every_choice := x_c_every_choice) F_Instance_reported_rankings b_Instance_reported_rankings ⟨a_Instance_reported_rankings, i_Instance_reported_rankings, k_Instance_reported_rankings⟩
  have x_c_borda := cal_borda (P := P) (w := w) (base := base) T (c_lowest_with_most := x_c_lowest_with_most) F_borda b_borda
  have x_c_has_single_peak := cal_has_single_peak (P := P) (w := w) (base := base) T (c_prefers := x_c_prefers) F_has_single_peak b_has_single_peak
  have x_c_not_preferred := cal_not_preferred (P := P) (w := w) (base := base) T (c_mask_of := x_c_mask_of) F_not_preferred b_not_preferred
  have x_c_outcome := cal_outcome (P := P) (w := w) (base := base) T (m_has_profile := x_m_has_profile) (m_place_of := x_m_place_of) F_outcome b_outcome
  have x_c_outcome_range := cal_outcome_range (P := P) (w := w) (base := base) T (c_mask_of := x_c_mask_of) F_outcome_range b_outcome_range
  have x_c_plurality := cal_plurality (P := P) (w := w) (base := base) T (c_lowest_with_most := x_c_lowest_with_most) F_plurality b_plurality
  have x_c_sequential_majority := cal_sequential_majority (P := P) (w := w) (base := base) T (c_prefers := x_c_prefers) F_sequential_majority b_sequential_majority
  have x_c_set_outcome := cal_set_outcome (P := P) (w := w) (base := base) T (m_place_of := x_m_place_of) (m_has_profile := x_m_has_profile) (m_has_alternative := x_m_has_alternative) F_set_outcome b_set_outcome
  have x_m_replace_domain := met_replace_domain (P := P) (w := w) (base := base) T (m_all_profiles := x_m_all_profiles) F_Instance_replace_domain b_Instance_replace_domain ⟨a_Instance_replace_domain, i_Instance_replace_domain, k_Instance_replace_domain⟩
  have x_m_create := met_create (P := P) (w := w) (base := base) T (k_Instance := x_k_Instance) F_Session_create b_Session_create ⟨a_Session_create, i_Session_create, k_Session_create⟩
  have x_c_first_inefficiency := cal_first_inefficiency (P := P) (w := w) (base := base) T (m_reported_rankings := x_m_reported_rankings) (m_all_profiles := x_m_all_profiles) (c_prefers := x_c_prefers) F_first_inefficiency b_first_inefficiency
  have x_c_gaining_reports := cal_gaining_reports (P := P) (w := w) (base := base) T (c_prefers := x_c_prefers) (m_options := x_m_options) F_gaining_reports b_gaining_reports
  have x_c_is_dictator := cal_is_dictator (P := P) (w := w) (base := base) T (m_reported_rankings := x_m_reported_rankings) (c_prefers := x_c_prefers) F_is_dictator b_is_dictator
  have x_c_is_single_peaked := cal_is_single_peaked (P := P) (w := w) (base := base) T (c_has_single_peak := x_c_has_single_peak) (m_has_agent := x_m_has_agent) F_is_single_peaked b_is_single_peaked
  have x_c_not_preferred_by_alternative := cal_not_preferred_by_alternative (P := P) (w := w) (base := base) T (c_not_preferred := x_c_not_preferred) (m_reported_rankings := x_m_reported_rankings) F_not_preferred_by_alternative b_not_preferred_by_alternative
  have x_c_option_set := cal_option_set (P := P) (w := w) (base := base) T (c_mask_of := x_c_mask_of) (m_options := x_m_options) (m_has_profile := x_m_has_profile) (m_has_agent := x_m_has_agent) F_option_set b_option_set
  have x_c_read_calls := cal_read_calls (P := P) (w := w) (base := base) T (k_Call := x_k_Call) F_read_calls b_read_calls
  have x_c_use_borda := cal_use_borda (P := P) (w := w) (base := base) T (m_reported_rankings := x_m_reported_rankings) (c_borda := x_c_borda) F_use_borda b_use_borda
  have x_c_use_dictatorship := cal_use_dictatorship (P := P) (w := w) (base := base) T (m_reported_rankings := x_m_reported_rankings) (c_dictatorship := x_c_dictatorship) (m_has_agent := x_m_has_agent) F_use_dictatorship b_use_dictatorship
  have x_c_use_generalized_median := cal_use_generalized_median (P := P) (w := w) (base := base) T (m_reported_rankings := x_m_reported_rankings) (c_generalized_median := x_c_generalized_median) (m_has_alternative := x_m_has_alternative) F_use_generalized_median b_use_generalized_median
  have x_c_use_plurality := cal_use_plurality (P := P) (w := w) (base := base) T (m_reported_rankings := x_m_reported_rankings) (c_plurality := x_c_plurality) F_use_plurality b_use_plurality
  have x_c_use_sequential_majority := cal_use_sequential_majority (P := P) (w := w) (base := base) T (m_reported_rankings := x_m_reported_rankings) (c_sequential_majority := x_c_sequential_majority) (c_is_ranking := x_c_is_ranking) F_use_sequential_majority b_use_sequential_majority
  have x_c_add_preference := cal_add_preference (P := P) (w := w) (base := base) T (m_replace_domain := x_m_replace_domain) (c_is_ranking := x_c_is_ranking) (m_has_agent := x_m_has_agent) F_add_preference b_add_preference
  have x_c_dictators := cal_dictators (P := P) (w := w) (base := base) T (c_is_dictator := x_c_is_dictator) F_dictators b_dictators
  have x_c_first_manipulation := cal_first_manipulation (P := P) (w := w) (base := base) T (m_all_profiles := x_m_all_profiles) (c_gaining_reports := x_c_gaining_reports) F_first_manipulation b_first_manipulation
  have x_c_first_monotonicity_violation := cal_first_monotonicity_violation (P := P) (w := w) (base := base) T (c_first_that_violates := x_c_first_that_violates) (c_not_preferred_by_alternative := x_c_not_preferred_by_alternative) (m_all_profiles := x_m_all_profiles) F_first_monotonicity_violation b_first_monotonicity_violation
  have x_c_inefficient_profile := cal_inefficient_profile (P := P) (w := w) (base := base) T (c_found_or_not := x_c_found_or_not) (c_first_inefficiency := x_c_first_inefficiency) F_inefficient_profile b_inefficient_profile
  have x_c_manipulation_count := cal_manipulation_count (P := P) (w := w) (base := base) T (m_all_profiles := x_m_all_profiles) (c_gaining_reports := x_c_gaining_reports) F_manipulation_count b_manipulation_count
  have x_c_set_full_domain := cal_set_full_domain (P := P) (w := w) (base := base) T (m_replace_domain := x_m_replace_domain) (c_all_rankings := x_c_all_rankings) (m_has_agent := x_m_has_agent) F_set_full_domain b_set_full_domain
  have x_c_count_manipulations := cal_count_manipulations (P := P) (w := w) (base := base) T (c_manipulation_count := x_c_manipulation_count) (m_has_agent := x_m_has_agent) F_count_manipulations b_count_manipulations
  have x_c_find_manipulation := cal_find_manipulation (P := P) (w := w) (base := base) T (c_first_manipulation := x_c_first_manipulation) F_find_manipulation b_find_manipulation
  have x_c_monotonicity_violation := cal_monotonicity_violation (P := P) (w := w) (base := base) T (c_found_or_not := x_c_found_or_not) (c_first_monotonicity_violation := x_c_first_monotonicity_violation) F_monotonicity_violation b_monotonicity_violation
  have cOps : Ops P w K mg base T.aI T.aC T.aD := fun p h1 h18 => by
    have hc : p = 1 ∨ p = 2 ∨ p = 3 ∨ p = 4 ∨ p = 5 ∨ p = 6 ∨ p = 7 ∨ p = 8 ∨ p = 9 ∨ p = 10 ∨ p = 11 ∨ p = 12 ∨ p = 13 ∨ p = 14 ∨ p = 15 ∨ p = 16 ∨ p = 17 ∨ p = 18 := by omega
    rcases hc with h | h | h | h | h | h | h | h | h | h | h | h | h | h | h | h | h | h
    · subst h
      exact ⟨f_add_preference, 4, by decide, opIs_of (i := 0) lD vD rfl, cat_of F_add_preference b_add_preference x_c_add_preference⟩
    · subst h
      exact ⟨f_set_full_domain, 4, by decide, opIs_of (i := 1) lD vD rfl, cat_of F_set_full_domain b_set_full_domain x_c_set_full_domain⟩
    · subst h
      exact ⟨f_set_outcome, 2, by decide, opIs_of (i := 2) lD vD rfl, cat_of F_set_outcome b_set_outcome x_c_set_outcome⟩
    · subst h
      exact ⟨f_use_dictatorship, 3, by decide, opIs_of (i := 3) lD vD rfl, cat_of F_use_dictatorship b_use_dictatorship x_c_use_dictatorship⟩
    · subst h
      exact ⟨f_use_generalized_median, 3, by decide, opIs_of (i := 4) lD vD rfl, cat_of F_use_generalized_median b_use_generalized_median x_c_use_generalized_median⟩
    · subst h
      exact ⟨f_use_plurality, 3, by decide, opIs_of (i := 5) lD vD rfl, cat_of F_use_plurality b_use_plurality x_c_use_plurality⟩
    · subst h
      exact ⟨f_use_borda, 3, by decide, opIs_of (i := 6) lD vD rfl, cat_of F_use_borda b_use_borda x_c_use_borda⟩
    · subst h
      exact ⟨f_use_sequential_majority, 3, by decide, opIs_of (i := 7) lD vD rfl, cat_of F_use_sequential_majority b_use_sequential_majority x_c_use_sequential_majority⟩
    · subst h
      exact ⟨f_outcome, 2, by decide, opIs_of (i := 8) lD vD rfl, cat_of F_outcome b_outcome x_c_outcome⟩
    · subst h
      exact ⟨f_option_set, 3, by decide, opIs_of (i := 9) lD vD rfl, cat_of F_option_set b_option_set x_c_option_set⟩
    · subst h
      exact ⟨f_find_manipulation, 5, by decide, opIs_of (i := 10) lD vD rfl, cat_of F_find_manipulation b_find_manipulation x_c_find_manipulation⟩
    · subst h
      exact ⟨f_count_manipulations, 5, by decide, opIs_of (i := 11) lD vD rfl, cat_of F_count_manipulations b_count_manipulations x_c_count_manipulations⟩
    · subst h
      exact ⟨f_outcome_range, 2, by decide, opIs_of (i := 12) lD vD rfl, cat_of F_outcome_range b_outcome_range x_c_outcome_range⟩
    · subst h
      exact ⟨f_dictators, 4, by decide, opIs_of (i := 13) lD vD rfl, cat_of F_dictators b_dictators x_c_dictators⟩
    · subst h
      exact ⟨f_monotonicity_violation, 5, by decide, opIs_of (i := 14) lD vD rfl, cat_of F_monotonicity_violation b_monotonicity_violation x_c_monotonicity_violation⟩
    · subst h
      exact ⟨f_inefficient_profile, 4, by decide, opIs_of (i := 15) lD vD rfl, cat_of F_inefficient_profile b_inefficient_profile x_c_inefficient_profile⟩
    · subst h
      exact ⟨f_is_single_peaked, 3, by decide, opIs_of (i := 16) lD vD rfl, cat_of F_is_single_peaked b_is_single_peaked x_c_is_single_peaked⟩
    · subst h
      exact ⟨f_describe, 1, by decide, opIs_of (i := 17) lD vD rfl, cat_of F_describe b_describe x_c_describe⟩
  have x_c_perform := cal_perform (P := P) (w := w) (base := base) T (cOps := cOps) (m_is_ready := x_m_is_ready) F_perform b_perform
  have x_m_carry_out := met_carry_out (P := P) (w := w) (base := base) T (m_create := x_m_create) (c_perform := x_c_perform) F_Session_carry_out b_Session_carry_out ⟨a_Session_carry_out, i_Session_carry_out, k_Session_carry_out⟩
  exact fn_answers (P := P) (w := w) (base := base) T (c_read_calls := x_c_read_calls) (m_carry_out := x_m_carry_out) (k_Session := x_k_Session) F_answers b_answers
end Tc
namespace Tc
open PySem PySem.Spec PyProof.Rows L2 Evl
open Su193 (SocialChoice)
open PySem.W (Codec)
/-! ## What is asked, as calls -/
def flat : List (List Int) → List Int
  | (p :: xs) :: rows => p :: (xs ++ rows.flatMap fun r => (r.length : Int) :: r)
  | _ => []
/-- a call as the list of numbers tells it -/
def RawOk (c : List (List Int)) : Prop := ∃ (p : Int) (xs : List Int) (rows : List (List Int)), c = (p :: xs) :: rows ∧ PySu193.shape p = some (xs.length, rows.length)
theorem row_flat {l x t : List Int} (h : PyFlat.row l = some (x, t)) : l = ((x.length : Int) :: x) ++ t := by
  cases l with
  | nil => cases h
  | cons n r =>
    have h2 : (if 0 ≤ n ∧ n.toNat ≤ r.length then some (r.take n.toNat, r.drop n.toNat) else none) = some (x, t) := h
    split at h2
    · rename_i hn
      cases h2
      have e : ((r.take n.toNat).length : Int) = n := by
        rw [List.length_take, Nat.min_eq_left hn.2]
        omega
      rw [e, List.cons_append, List.take_append_drop]
    · cases h2
theorem rows_flat : ∀ {k : Nat} {l : List Int} {xs : List (List Int)} {t : List Int}, PyFlat.rows k l = some (xs, t) → l = (xs.flatMap fun r => (r.length : Int) :: r) ++ t ∧ xs.length = k
  | 0, l, xs, t, h => by
    cases h
    exact ⟨rfl, rfl⟩
  | k + 1, l, xs, t, h => by
    unfold PyFlat.rows at h
    split at h
    · cases h
    · rename_i x s hr
      split at h
      · cases h
      · rename_i ys u hs
        cases h
        obtain ⟨h1, h2⟩ := rows_flat hs
        refine ⟨?_, by rw [List.length_cons, h2]⟩
        rw [row_flat hr, List.flatMap_cons, List.append_assoc, ← h1]
theorem call_flat {l t : List Int} {c : List (List Int)} (h : PyFlat.call PySu193.shape l = some (c, t)) : l = flat c ++ t ∧ RawOk c := by
  cases l with
  | nil => cases h
  | cons p r =>
    unfold PyFlat.call at h
    dsimp only at h
    split at h
    · cases h
    · rename_i n k hs
      split at h
      · cases h
      · rename_i hn
        split at h
        · cases h
        · rename_i xs u hr
          cases h
          obtain ⟨h1, h2⟩ := rows_flat hr
          refine ⟨?_, p, r.take n, xs, rfl, by rw [hs, h2, List.length_take, Nat.min_eq_left (by omega)]⟩
          show p :: r = p :: ((r.take n ++ _) ++ _)
          rw [List.append_assoc, ← h1, List.take_append_drop]
theorem calls_flat : ∀ {f : Nat} {l : List Int} {raw : List (List (List Int))}, PyFlat.calls PySu193.shape f l = some raw → l = raw.flatMap flat ∧ ∀ c ∈ raw, RawOk c
  | f, [], raw, h => by
    have e : raw = [] := by
      cases f <;> (cases h; rfl)
    subst e
    exact ⟨rfl, fun c hc => by cases hc⟩
  | 0, _ :: _, raw, h => by cases h
  | f + 1, p :: r, raw, h => by
    unfold PyFlat.calls at h
    split at h
    · cases h
    · rename_i c t hc
      split at h
      · cases h
      · rename_i cs hcs
        cases h
        obtain ⟨h1, h2⟩ := call_flat hc
        obtain ⟨h3, h4⟩ := calls_flat hcs
        refine ⟨by rw [h1, List.flatMap_cons, ← h3], fun d hd => ?_⟩
        rcases List.mem_cons.mp hd with z | z
        · rw [z]
          exact h2
        · exact h4 d z
def cast (l : List Nat) : List Int := l.map fun n : Nat => (n : Int)
theorem cast_to {l : List Int} (h : ∀ z ∈ l, 0 ≤ z) : cast (l.map Int.toNat) = l := by
  unfold cast
  rw [List.map_map]
  refine (List.map_congr_left fun z hz => ?_).trans (List.map_id l)
  show ((z.toNat : Nat) : Int) = z
  exact Int.toNat_of_nonneg (h z hz)
theorem within_nat {z : Int} (h : PyInside.within 0 4294967295 z = true) : 0 ≤ z := by
  unfold PyInside.within at h
  rw [Bool.and_eq_true] at h
  exact of_decide_eq_true h.1
/-- one raw call is one call -/
def Same (c : List (List Int)) (cl : Cl) : Prop := ClOk cl ∧ flat c = cast (enc cl) ∧ ∀ s, Su193Neutral.step s ((PySu193.whole c).headD []) = stepS s (opP cl.1 cl.2.1 cl.2.2)
theorem inside_row {r : List Int} (h : PyInside.lists [(0, 4294967295, 0, 8)] [r] = true) : r.length ≤ 8 ∧ ∀ z ∈ r, 0 ≤ z := by
  unfold PyInside.lists at h
  rw [Bool.and_eq_true, Bool.and_eq_true, Bool.and_eq_true] at h
  exact ⟨of_decide_eq_true h.1.1.2, fun z hz => within_nat (List.all_eq_true.mp h.1.2 z hz)⟩
theorem inside_one {x : Int} (h : PyInside.each [(0, 4294967295)] [x] = true) : 0 ≤ x := by
  unfold PyInside.each at h
  rw [Bool.and_eq_true] at h
  exact within_nat h.1
theorem inside_two {x y : Int} (h : PyInside.each [(0, 4294967295), (0, 4294967295)] [x, y] = true) : 0 ≤ x ∧ 0 ≤ y := by
  unfold PyInside.each at h
  rw [Bool.and_eq_true] at h
  exact ⟨within_nat h.1, inside_one h.2⟩
theorem to_nat {z : Int} (h : 0 ≤ z) : ((z.toNat : Nat) : Int) = z := Int.toNat_of_nonneg h
theorem len0 {α : Type} {l : List α} (h : l.length = 0) : l = [] := List.length_eq_zero_iff.mp h
theorem len1 {α : Type} {l : List α} (h : l.length = 1) : ∃ x, l = [x] := List.length_eq_one_iff.mp h
theorem len2 {α : Type} {l : List α} (h : l.length = 2) : ∃ x y, l = [x, y] := match l, h with
  | [x, y], _ => ⟨x, y, rfl⟩
theorem shape_len {a b c d : Nat} (h : (some (a, b) : Option (Nat × Nat)) = some (c, d)) : c = a ∧ d = b := by
  cases h
  exact ⟨rfl, rfl⟩
theorem same_of {c : List (List Int)} (h : RawOk c) (hin : PyInside.call PySu193.bound c = true) : ∃ cl, Same c cl := by
  obtain ⟨p, xs, rows, rfl, hs⟩ := h
  have hi : PyInside.each (PySu193.bound p).1 xs = true ∧ PyInside.lists (PySu193.bound p).2 rows = true := by
    have h2 : (PyInside.each (PySu193.bound p).1 xs && PyInside.lists (PySu193.bound p).2 rows) = true := hin
    rwa [Bool.and_eq_true] at h2
  clear hin
  obtain ⟨h1, h2⟩ := hi
  by_cases e : p = 0
  · subst e
    have hs2 := shape_len (a := 2) (b := 0) hs
    obtain ⟨x, y, rfl⟩ := len2 hs2.1
    have g1 := inside_two h1
    have hr := len0 hs2.2
    subst hr
    refine ⟨(0, [x.toNat, y.toNat], []), ⟨by show (0 : Nat) ≤ 18; decide, rfl, fun _ => rfl, Nat.zero_le _⟩, ?_, fun s => ?_⟩
    · show (0 : Int) :: x :: y :: [] = (0 : Int) :: ((x.toNat : Nat) : Int) :: ((y.toNat : Nat) : Int) :: []
      rw [to_nat g1.1, to_nat g1.2]
    · rfl
  by_cases e : p = 1
  · subst e
    have hs2 := shape_len (a := 1) (b := 1) hs
    obtain ⟨x, rfl⟩ := len1 hs2.1
    have g1 := inside_one h1
    obtain ⟨r, rfl⟩ := len1 hs2.2
    have g2 := inside_row h2
    refine ⟨(1, [x.toNat], r.map Int.toNat), ⟨by show (1 : Nat) ≤ 18; decide, rfl, fun z => (by cases z), by show (r.map Int.toNat).length ≤ 8; rw [List.length_map]; exact g2.1⟩, ?_, fun s => ?_⟩
    · show (1 : Int) :: x :: ((r.length : Int) :: r ++ []) = (1 : Int) :: ((x.toNat : Nat) : Int) :: (((r.map Int.toNat).length : Nat) : Int) :: cast (r.map Int.toNat)
      rw [to_nat g1, cast_to g2.2, List.length_map, List.append_nil]
    · rfl
  by_cases e : p = 2
  · subst e
    have hs2 := shape_len (a := 1) (b := 0) hs
    obtain ⟨x, rfl⟩ := len1 hs2.1
    have g1 := inside_one h1
    have hr := len0 hs2.2
    subst hr
    refine ⟨(2, [x.toNat], []), ⟨by show (2 : Nat) ≤ 18; decide, rfl, fun _ => rfl, Nat.zero_le _⟩, ?_, fun s => ?_⟩
    · show (2 : Int) :: x :: [] = (2 : Int) :: ((x.toNat : Nat) : Int) :: []
      rw [to_nat g1]
    · rfl
  by_cases e : p = 3
  · subst e
    have hs2 := shape_len (a := 1) (b := 1) hs
    obtain ⟨x, rfl⟩ := len1 hs2.1
    have g1 := inside_one h1
    obtain ⟨r, rfl⟩ := len1 hs2.2
    have g2 := inside_row h2
    refine ⟨(3, [x.toNat], r.map Int.toNat), ⟨by show (3 : Nat) ≤ 18; decide, rfl, fun z => (by cases z), by show (r.map Int.toNat).length ≤ 8; rw [List.length_map]; exact g2.1⟩, ?_, fun s => ?_⟩
    · show (3 : Int) :: x :: ((r.length : Int) :: r ++ []) = (3 : Int) :: ((x.toNat : Nat) : Int) :: (((r.map Int.toNat).length : Nat) : Int) :: cast (r.map Int.toNat)
      rw [to_nat g1, cast_to g2.2, List.length_map, List.append_nil]
    · rfl
  by_cases e : p = 4
  · subst e
    have hs2 := shape_len (a := 1) (b := 0) hs
    obtain ⟨x, rfl⟩ := len1 hs2.1
    have g1 := inside_one h1
    have hr := len0 hs2.2
    subst hr
    refine ⟨(4, [x.toNat], []), ⟨by show (4 : Nat) ≤ 18; decide, rfl, fun _ => rfl, Nat.zero_le _⟩, ?_, fun s => ?_⟩
    · show (4 : Int) :: x :: [] = (4 : Int) :: ((x.toNat : Nat) : Int) :: []
      rw [to_nat g1]
    · rfl
  by_cases e : p = 5
  · subst e
    have hs2 := shape_len (a := 0) (b := 1) hs
    have hx := len0 hs2.1
    subst hx
    obtain ⟨r, rfl⟩ := len1 hs2.2
    have g2 := inside_row h2
    refine ⟨(5, [], r.map Int.toNat), ⟨by show (5 : Nat) ≤ 18; decide, rfl, fun z => (by cases z), by show (r.map Int.toNat).length ≤ 8; rw [List.length_map]; exact g2.1⟩, ?_, fun s => ?_⟩
    · show (5 : Int) :: ((r.length : Int) :: r ++ []) = (5 : Int) :: (((r.map Int.toNat).length : Nat) : Int) :: cast (r.map Int.toNat)
      rw [cast_to g2.2, List.length_map, List.append_nil]
    · rfl
  by_cases e : p = 6
  · subst e
    have hs2 := shape_len (a := 0) (b := 0) hs
    have hx := len0 hs2.1
    subst hx
    have hr := len0 hs2.2
    subst hr
    refine ⟨(6, [], []), ⟨by show (6 : Nat) ≤ 18; decide, rfl, fun _ => rfl, Nat.zero_le _⟩, ?_, fun s => ?_⟩
    · show (6 : Int) :: [] = (6 : Int) :: []
      rfl
    · rfl
  by_cases e : p = 7
  · subst e
    have hs2 := shape_len (a := 0) (b := 0) hs
    have hx := len0 hs2.1
    subst hx
    have hr := len0 hs2.2
    subst hr
    refine ⟨(7, [], []), ⟨by show (7 : Nat) ≤ 18; decide, rfl, fun _ => rfl, Nat.zero_le _⟩, ?_, fun s => ?_⟩
    · show (7 : Int) :: [] = (7 : Int) :: []
      rfl
    · rfl
  by_cases e : p = 8
  · subst e
    have hs2 := shape_len (a := 0) (b := 1) hs
    have hx := len0 hs2.1
    subst hx
    obtain ⟨r, rfl⟩ := len1 hs2.2
    have g2 := inside_row h2
    refine ⟨(8, [], r.map Int.toNat), ⟨by show (8 : Nat) ≤ 18; decide, rfl, fun z => (by cases z), by show (r.map Int.toNat).length ≤ 8; rw [List.length_map]; exact g2.1⟩, ?_, fun s => ?_⟩
    · show (8 : Int) :: ((r.length : Int) :: r ++ []) = (8 : Int) :: (((r.map Int.toNat).length : Nat) : Int) :: cast (r.map Int.toNat)
      rw [cast_to g2.2, List.length_map, List.append_nil]
    · rfl
  by_cases e : p = 9
  · subst e
    have hs2 := shape_len (a := 0) (b := 1) hs
    have hx := len0 hs2.1
    subst hx
    obtain ⟨r, rfl⟩ := len1 hs2.2
    have g2 := inside_row h2
    refine ⟨(9, [], r.map Int.toNat), ⟨by show (9 : Nat) ≤ 18; decide, rfl, fun z => (by cases z), by show (r.map Int.toNat).length ≤ 8; rw [List.length_map]; exact g2.1⟩, ?_, fun s => ?_⟩
    · show (9 : Int) :: ((r.length : Int) :: r ++ []) = (9 : Int) :: (((r.map Int.toNat).length : Nat) : Int) :: cast (r.map Int.toNat)
      rw [cast_to g2.2, List.length_map, List.append_nil]
    · rfl
  by_cases e : p = 10
  · subst e
    have hs2 := shape_len (a := 1) (b := 1) hs
    obtain ⟨x, rfl⟩ := len1 hs2.1
    have g1 := inside_one h1
    obtain ⟨r, rfl⟩ := len1 hs2.2
    have g2 := inside_row h2
    refine ⟨(10, [x.toNat], r.map Int.toNat), ⟨by show (10 : Nat) ≤ 18; decide, rfl, fun z => (by cases z), by show (r.map Int.toNat).length ≤ 8; rw [List.length_map]; exact g2.1⟩, ?_, fun s => ?_⟩
    · show (10 : Int) :: x :: ((r.length : Int) :: r ++ []) = (10 : Int) :: ((x.toNat : Nat) : Int) :: (((r.map Int.toNat).length : Nat) : Int) :: cast (r.map Int.toNat)
      rw [to_nat g1, cast_to g2.2, List.length_map, List.append_nil]
    · rfl
  by_cases e : p = 11
  · subst e
    have hs2 := shape_len (a := 0) (b := 0) hs
    have hx := len0 hs2.1
    subst hx
    have hr := len0 hs2.2
    subst hr
    refine ⟨(11, [], []), ⟨by show (11 : Nat) ≤ 18; decide, rfl, fun _ => rfl, Nat.zero_le _⟩, ?_, fun s => ?_⟩
    · show (11 : Int) :: [] = (11 : Int) :: []
      rfl
    · rfl
  by_cases e : p = 12
  · subst e
    have hs2 := shape_len (a := 1) (b := 0) hs
    obtain ⟨x, rfl⟩ := len1 hs2.1
    have g1 := inside_one h1
    have hr := len0 hs2.2
    subst hr
    refine ⟨(12, [x.toNat], []), ⟨by show (12 : Nat) ≤ 18; decide, rfl, fun _ => rfl, Nat.zero_le _⟩, ?_, fun s => ?_⟩
    · show (12 : Int) :: x :: [] = (12 : Int) :: ((x.toNat : Nat) : Int) :: []
      rw [to_nat g1]
    · rfl
  by_cases e : p = 13
  · subst e
    have hs2 := shape_len (a := 0) (b := 0) hs
    have hx := len0 hs2.1
    subst hx
    have hr := len0 hs2.2
    subst hr
    refine ⟨(13, [], []), ⟨by show (13 : Nat) ≤ 18; decide, rfl, fun _ => rfl, Nat.zero_le _⟩, ?_, fun s => ?_⟩
    · show (13 : Int) :: [] = (13 : Int) :: []
      rfl
    · rfl
  by_cases e : p = 14
  · subst e
    have hs2 := shape_len (a := 0) (b := 0) hs
    have hx := len0 hs2.1
    subst hx
    have hr := len0 hs2.2
    subst hr
    refine ⟨(14, [], []), ⟨by show (14 : Nat) ≤ 18; decide, rfl, fun _ => rfl, Nat.zero_le _⟩, ?_, fun s => ?_⟩
    · show (14 : Int) :: [] = (14 : Int) :: []
      rfl
    · rfl
  by_cases e : p = 15
  · subst e
    have hs2 := shape_len (a := 0) (b := 0) hs
    have hx := len0 hs2.1
    subst hx
    have hr := len0 hs2.2
    subst hr
    refine ⟨(15, [], []), ⟨by show (15 : Nat) ≤ 18; decide, rfl, fun _ => rfl, Nat.zero_le _⟩, ?_, fun s => ?_⟩
    · show (15 : Int) :: [] = (15 : Int) :: []
      rfl
    · rfl
  by_cases e : p = 16
  · subst e
    have hs2 := shape_len (a := 0) (b := 0) hs
    have hx := len0 hs2.1
    subst hx
    have hr := len0 hs2.2
    subst hr
    refine ⟨(16, [], []), ⟨by show (16 : Nat) ≤ 18; decide, rfl, fun _ => rfl, Nat.zero_le _⟩, ?_, fun s => ?_⟩
    · show (16 : Int) :: [] = (16 : Int) :: []
      rfl
    · rfl
  by_cases e : p = 17
  · subst e
    have hs2 := shape_len (a := 1) (b := 0) hs
    obtain ⟨x, rfl⟩ := len1 hs2.1
    have g1 := inside_one h1
    have hr := len0 hs2.2
    subst hr
    refine ⟨(17, [x.toNat], []), ⟨by show (17 : Nat) ≤ 18; decide, rfl, fun _ => rfl, Nat.zero_le _⟩, ?_, fun s => ?_⟩
    · show (17 : Int) :: x :: [] = (17 : Int) :: ((x.toNat : Nat) : Int) :: []
      rw [to_nat g1]
    · rfl
  by_cases e : p = 18
  · subst e
    have hs2 := shape_len (a := 0) (b := 0) hs
    have hx := len0 hs2.1
    subst hx
    have hr := len0 hs2.2
    subst hr
    refine ⟨(18, [], []), ⟨by show (18 : Nat) ≤ 18; decide, rfl, fun _ => rfl, Nat.zero_le _⟩, ?_, fun s => ?_⟩
    · show (18 : Int) :: [] = (18 : Int) :: []
      rfl
    · rfl
  exfalso
  unfold PySu193.shape at hs
  repeat rw [if_neg (by assumption)] at hs
  cases hs
theorem sames {raw : List (List (List Int))} : (∀ c ∈ raw, RawOk c) → PyInside.calls PySu193.bound raw = true → ∃ cs : List Cl, Paired Same raw cs := by
  induction raw with
  | nil => exact fun _ _ => ⟨[], .nil⟩
  | cons c raw ih =>
    intro h1 h2
    have h3 : (PyInside.call PySu193.bound c && PyInside.calls PySu193.bound raw) = true := h2
    rw [Bool.and_eq_true] at h3
    obtain ⟨cl, hc⟩ := same_of (h1 c (List.mem_cons_self ..)) h3.1
    obtain ⟨cs, hcs⟩ := ih (fun d hd => h1 d (List.mem_cons_of_mem _ hd)) h3.2
    exact ⟨cl :: cs, .cons hc hcs⟩
theorem same_flat {raw : List (List (List Int))} {cs : List Cl} (h : Paired Same raw cs) : raw.flatMap flat = cast (encs cs) := by
  induction h with
  | nil => rfl
  | cons a b ih =>
    unfold encs cast at ih ⊢
    rw [List.flatMap_cons, List.flatMap_cons, List.map_append, ih, a.2.1]
    rfl
theorem same_ok {raw : List (List (List Int))} {cs : List Cl} (h : Paired Same raw cs) : ∀ c ∈ cs, ClOk c := by
  induction h with
  | nil => exact fun c hc => by cases hc
  | cons a b ih =>
    intro c hc
    rcases List.mem_cons.mp hc with z | z
    · rw [z]
      exact a.1
    · exact ih c z
theorem same_told {raw : List (List (List Int))} {cs : List Cl} (h : Paired Same raw cs) : ∀ (s : Option SocialChoice) (acc : List Int), (cs.foldl tell (s, acc)).2 = acc ++ PyFlat.told (PyFlat.played (fun s c => Su193Neutral.step s (c.headD [])) s (raw.map PySu193.whole)) := by
  induction h with
  | nil =>
    intro s acc
    exact (List.append_nil acc).symm
  | cons a b ih =>
    intro s acc
    rw [List.foldl_cons, List.map_cons]
    unfold PyFlat.played PyFlat.told
    rw [List.flatMap_cons, a.2.2 s]
    refine Eq.trans (ih _ _) ?_
    dsimp only [tell]
    rw [List.append_assoc]
    rfl
theorem asked_calls {ns : List Int} (h : PySu193.answers_asked ns = true) : ∃ cs : List Cl, ns = cast (encs cs) ∧ (∀ c ∈ cs, ClOk c) ∧ (tells cs).2 = PySu193.answers ns ∧ (PySu193.answers ns).length ≤ 10000000 := by
  unfold PySu193.answers_asked at h
  cases hc : PyFlat.calls PySu193.shape ns.length ns with
  | none =>
    rw [hc] at h
    cases h
  | some raw =>
    rw [hc] at h
    dsimp only at h
    rw [Bool.and_eq_true, Bool.and_eq_true, Bool.and_eq_true, Bool.and_eq_true] at h
    obtain ⟨h1, h2⟩ := calls_flat hc
    obtain ⟨cs, hs⟩ := sames h2 h.1.1.2
    refine ⟨cs, by rw [← same_flat hs, ← h1], same_ok hs, ?_, of_decide_eq_true h.2⟩
    have h3 := same_told hs none []
    rw [List.nil_append] at h3
    unfold tells
    rw [h3]
    unfold PySu193.answers PySu193.calls
    rw [hc]
    rfl
theorem asked_spec {K : PySem.W.Frag} {H : Hp} {xs : List V} {a : Codec.denoteAll PySem.Challenge.rw_truthfulchoice_s01_answers.args} (hO : OnlyF H) (hwi : Codec.withinAll PySem.Challenge.rw_truthfulchoice_s01_answers.args a = true)
    (hask : Codec.app PySem.Challenge.rw_truthfulchoice_s01_answers.args PySem.Challenge.rw_truthfulchoice_s01_answers.asked a = true) (hx : DwAll K H xs (Codec.encAll PySem.Challenge.rw_truthfulchoice_s01_answers.args a)) :
    sp_answers K xs H (fun v H' => Dw K H' v (PySem.Challenge.rw_truthfulchoice_s01_answers.ret.enc (Codec.app PySem.Challenge.rw_truthfulchoice_s01_answers.args PySem.Challenge.rw_truthfulchoice_s01_answers.f a))) fun _ _ _ => False := by
  cases hx with
  | cons h1 h2 =>
    cases h2
    cases h1 with
    | lst hs ha =>
      have e := L2.ints_dw a.1 _ ha
      subst e
      have q : ((Codec.inLen 0 4400 a.1 && a.1.all (Codec.inInt 0 4294967295)) && true) = true := hwi
      rw [Bool.and_eq_true, Bool.and_eq_true] at q
      have hlen := (Codec.inNat_iff.mp q.1.1).2
      have hask2 : PySu193.answers_asked a.1 = true := hask
      obtain ⟨cs, e1, e2, e3, e4⟩ := asked_calls hask2
      have e5 : a.1.map V.int = nvs (encs cs) := by
        rw [e1]
        unfold cast
        rw [nvs, List.map_map]
        rfl
      rw [e5] at hs
      refine ⟨_, cs, rfl, hs, e2, ?_, by rw [e3]; exact e4, fun H' p hp => ?_⟩
      · rw [e1] at hlen
        unfold cast at hlen
        rw [List.length_map] at hlen
        exact hlen
      · rw [e3] at hp
        exact .lst (L2.SqL.of hp) (L2.dw_ints _)
end Tc
set_option maxHeartbeats 8000000
open PySem PySem.W PyProof.Rows
theorem PySem.Challenge.cw_truthfulchoice_s01_answers_holds : PySem.Challenge.rw_truthfulchoice_s01_answers.Holds := by
  w_on; k_headS; (case hw => exact ⟨[.list [.int 18]], by decide +kernel, by decide +kernel⟩)
  k_fillS
  refine L2.walk_specK (r := PySem.Challenge.rw_truthfulchoice_s01_answers) (k := 8) (CX := C8.CX0) (ps := ["calls"]) (sp := Tc.sp_answers) (by decide +kernel) rfl rfl ⟨rfl, by decide, by decide⟩ (fun w h Y => PySem.W.kIn_of Y) ?F ?S (fun _ _ _ _ z => z)
  case F =>
    intro w mg fa h Y KX G hmg
    refine' Tc.all_mk KX G hmg ?nC ?nI ?nS ?nN ?nL ?nD ?pgC ?hdC ?poC ?saC ?mkC ?kcC ?pgI ?hdI ?poI ?saI ?mkI ?kcI ?pgS ?hdS ?poS ?saS ?mkS ?kcS ?atC_number ?atC_numbers ?atC_row ?atI_agent_count ?atI_alternative_count ?atI_domains ?atI_outcomes ?atS_instance ?bi_len ?bi_range ?bi_zip ?bi_enumerate ?bi_sorted ?bi_all ?bi_any ?bi_sum ?bi_max ?bi_list ?bi_set ?co_DOMAIN_LIMIT ?co_FIRST_THAT_NEEDS_READY ?co_LAST_THAT_NEEDS_READY ?co_NO_INSTANCE ?co_NOT_READY ?co_NO_AGENT ?co_INVALID ?co_KNOWN_PREFERENCE ?co_LIMIT_REACHED ?co_NO_MANIPULATION ?co_CREATE ?lN ?vN ?lL ?vL ?a_Call_new ?i_Call_new ?l_Call_new ?c_Call_new ?a_read_calls ?l_read_calls ?c_read_calls ?k_read_calls ?a_every_choice ?l_every_choice ?c_every_choice ?k_every_choice ?a_Instance_new ?i_Instance_new ?l_Instance_new ?c_Instance_new ?a_Instance_is_ready ?i_Instance_is_ready ?l_Instance_is_ready ?c_Instance_is_ready ?k_Instance_is_ready ?a_Instance_has_agent ?i_Instance_has_agent ?l_Instance_has_agent ?c_Instance_has_agent ?k_Instance_has_agent ?a_Instance_has_alternative ?i_Instance_has_alternative ?l_Instance_has_alternative ?c_Instance_has_alternative ?k_Instance_has_alternative ?a_Instance_has_profile ?i_Instance_has_profile ?l_Instance_has_profile ?c_Instance_has_profile ?k_Instance_has_profile ?a_Instance_replace_domain ?i_Instance_replace_domain ?l_Instance_replace_domain ?c_Instance_replace_domain ?k_Instance_replace_domain ?a_Instance_all_profiles ?i_Instance_all_profiles ?l_Instance_all_profiles ?c_Instance_all_profiles ?k_Instance_all_profiles ?a_Instance_reported_rankings ?i_Instance_reported_rankings ?l_Instance_reported_rankings ?c_Instance_reported_rankings ?k_Instance_reported_rankings ?a_Instance_place_of ?i_Instance_place_of ?l_Instance_place_of ?c_Instance_place_of ?k_Instance_place_of ?a_Instance_step_of ?i_Instance_step_of ?l_Instance_step_of ?c_Instance_step_of ?k_Instance_step_of ?a_Instance_options ?i_Instance_options ?l_Instance_options ?c_Instance_options ?k_Instance_options ?a_is_ranking ?l_is_ranking ?c_is_ranking ?k_is_ranking ?a_all_rankings ?l_all_rankings ?c_all_rankings ?k_all_rankings ?a_prefers ?l_prefers ?c_prefers ?k_prefers ?a_has_single_peak ?l_has_single_peak ?c_has_single_peak ?k_has_single_peak ?a_mask_of ?l_mask_of ?c_mask_of ?k_mask_of ?a_gaining_reports ?l_gaining_reports ?c_gaining_reports ?k_gaining_reports ?a_first_manipulation ?l_first_manipulation ?c_first_manipulation ?k_first_manipulation ?a_manipulation_count ?l_manipulation_count ?c_manipulation_count ?k_manipulation_count ?a_is_dictator ?l_is_dictator ?c_is_dictator ?k_is_dictator ?a_not_preferred ?l_not_preferred ?c_not_preferred ?k_not_preferred ?a_not_preferred_by_alternative ?l_not_preferred_by_alternative ?c_not_preferred_by_alternative ?k_not_preferred_by_alternative ?a_first_that_violates ?l_first_that_violates ?c_first_that_violates ?k_first_that_violates ?a_first_monotonicity_violation ?l_first_monotonicity_violation ?c_first_monotonicity_violation ?k_first_monotonicity_violation ?a_first_inefficiency ?l_first_inefficiency ?c_first_inefficiency ?k_first_inefficiency ?a_dictatorship ?l_dictatorship ?c_dictatorship ?k_dictatorship ?a_generalized_median ?l_generalized_median ?c_generalized_median ?k_generalized_median ?a_lowest_with_most ?l_lowest_with_most ?c_lowest_with_most ?k_lowest_with_most ?a_plurality ?l_plurality ?c_plurality ?k_plurality ?a_borda ?l_borda ?c_borda ?k_borda ?a_sequential_majority ?l_sequential_majority ?c_sequential_majority ?k_sequential_majority ?a_add_preference ?l_add_preference ?c_add_preference ?k_add_preference ?a_set_full_domain ?l_set_full_domain ?c_set_full_domain ?k_set_full_domain ?a_set_outcome ?l_set_outcome ?c_set_outcome ?k_set_outcome ?a_use_dictatorship ?l_use_dictatorship ?c_use_dictatorship ?k_use_dictatorship ?a_use_generalized_median ?l_use_generalized_median ?c_use_generalized_median ?k_use_generalized_median ?a_use_plurality ?l_use_plurality ?c_use_plurality ?k_use_plurality ?a_use_borda ?l_use_borda ?c_use_borda ?k_use_borda ?a_use_sequential_majority ?l_use_sequential_majority ?c_use_sequential_majority ?k_use_sequential_majority ?a_outcome ?l_outcome ?c_outcome ?k_outcome ?a_option_set ?l_option_set ?c_option_set ?k_option_set ?a_find_manipulation ?l_find_manipulation ?c_find_manipulation ?k_find_manipulation ?a_count_manipulations ?l_count_manipulations ?c_count_manipulations ?k_count_manipulations ?a_outcome_range ?l_outcome_range ?c_outcome_range ?k_outcome_range ?a_dictators ?l_dictators ?c_dictators ?k_dictators ?a_found_or_not ?l_found_or_not ?c_found_or_not ?k_found_or_not ?a_monotonicity_violation ?l_monotonicity_violation ?c_monotonicity_violation ?k_monotonicity_violation ?a_inefficient_profile ?l_inefficient_profile ?c_inefficient_profile ?k_inefficient_profile ?a_is_single_peaked ?l_is_single_peaked ?c_is_single_peaked ?k_is_single_peaked ?a_describe ?l_describe ?c_describe ?k_describe ?a_perform ?l_perform ?c_perform ?k_perform ?a_Session_new ?i_Session_new ?l_Session_new ?c_Session_new ?a_Session_carry_out ?i_Session_carry_out ?l_Session_carry_out ?c_Session_carry_out ?k_Session_carry_out ?a_Session_create ?i_Session_create ?l_Session_create ?c_Session_create ?k_Session_create ?a_answers ?l_answers ?c_answers ?k_answers ?lD ?vD
    (case nC => k_is)
    (case nI => k_is)
    (case nS => k_is)
    (case nN => k_is)
    (case nL => k_is)
    (case nD => k_is)
    (case pgC => k_is)
    (case hdC => k_is)
    (case poC => k_is)
    (case saC => k_is)
    (case mkC => k_is)
    (case kcC => k_is)
    (case pgI => k_is)
    (case hdI => k_is)
    (case poI => k_is)
    (case saI => k_is)
    (case mkI => k_is)
    (case kcI => k_is)
    (case pgS => k_is)
    (case hdS => k_is)
    (case poS => k_is)
    (case saS => k_is)
    (case mkS => k_is)
    (case kcS => k_is)
    (case atC_number => k_is)
    (case atC_numbers => k_is)
    (case atC_row => k_is)
    (case atI_agent_count => k_is)
    (case atI_alternative_count => k_is)
    (case atI_domains => k_is)
    (case atI_outcomes => k_is)
    (case atS_instance => k_is)
    (case bi_len => k_is)
    (case bi_range => k_is)
    (case bi_zip => k_is)
    (case bi_enumerate => k_is)
    (case bi_sorted => k_is)
    (case bi_all => k_is)
    (case bi_any => k_is)
    (case bi_sum => k_is)
    (case bi_max => k_is)
    (case bi_list => k_is)
    (case bi_set => k_is)
    (case co_DOMAIN_LIMIT => k_is)
    (case co_FIRST_THAT_NEEDS_READY => k_is)
    (case co_LAST_THAT_NEEDS_READY => k_is)
    (case co_NO_INSTANCE => k_is)
    (case co_NOT_READY => k_is)
    (case co_NO_AGENT => k_is)
    (case co_INVALID => k_is)
    (case co_KNOWN_PREFERENCE => k_is)
    (case co_LIMIT_REACHED => k_is)
    (case co_NO_MANIPULATION => k_is)
    (case co_CREATE => k_is)
    (case lN => k_is)
    (case vN => decide +kernel)
    (case lL => k_is)
    (case vL => decide +kernel)
    (case a_Call_new => k_is)
    (case i_Call_new => k_is)
    (case l_Call_new => k_is)
    (case c_Call_new => k_is)
    (case a_read_calls => k_is)
    (case l_read_calls => k_is)
    (case c_read_calls => k_is)
    (case k_read_calls => k_is)
    (case a_every_choice => k_is)
    (case l_every_choice => k_is)
    (case c_every_choice => k_is)
    (case k_every_choice => k_is)
    (case a_Instance_new => k_is)
    (case i_Instance_new => k_is)
    (case l_Instance_new => k_is)
    (case c_Instance_new => k_is)
    (case a_Instance_is_ready => k_is)
    (case i_Instance_is_ready => k_is)
    (case l_Instance_is_ready => k_is)
    (case c_Instance_is_ready => k_is)
    (case k_Instance_is_ready => k_is)
    (case a_Instance_has_agent => k_is)
    (case i_Instance_has_agent => k_is)
    (case l_Instance_has_agent => k_is)
    (case c_Instance_has_agent => k_is)
    (case k_Instance_has_agent => k_is)
    (case a_Instance_has_alternative => k_is)
    (case i_Instance_has_alternative => k_is)
    (case l_Instance_has_alternative => k_is)
    (case c_Instance_has_alternative => k_is)
    (case k_Instance_has_alternative => k_is)
    (case a_Instance_has_profile => k_is)
    (case i_Instance_has_profile => k_is)
    (case l_Instance_has_profile => k_is)
    (case c_Instance_has_profile => k_is)
    (case k_Instance_has_profile => k_is)
    (case a_Instance_replace_domain => k_is)
    (case i_Instance_replace_domain => k_is)
    (case l_Instance_replace_domain => k_is)
    (case c_Instance_replace_domain => k_is)
    (case k_Instance_replace_domain => k_is)
    (case a_Instance_all_profiles => k_is)
    (case i_Instance_all_profiles => k_is)
    (case l_Instance_all_profiles => k_is)
    (case c_Instance_all_profiles => k_is)
    (case k_Instance_all_profiles => k_is)
    (case a_Instance_reported_rankings => k_is)
    (case i_Instance_reported_rankings => k_is)
    (case l_Instance_reported_rankings => k_is)
    (case c_Instance_reported_rankings => k_is)
    (case k_Instance_reported_rankings => k_is)
    (case a_Instance_place_of => k_is)
    (case i_Instance_place_of => k_is)
    (case l_Instance_place_of => k_is)
    (case c_Instance_place_of => k_is)
    (case k_Instance_place_of => k_is)
    (case a_Instance_step_of => k_is)
    (case i_Instance_step_of => k_is)
    (case l_Instance_step_of => k_is)
    (case c_Instance_step_of => k_is)
    (case k_Instance_step_of => k_is)
    (case a_Instance_options => k_is)
    (case i_Instance_options => k_is)
    (case l_Instance_options => k_is)
    (case c_Instance_options => k_is)
    (case k_Instance_options => k_is)
    (case a_is_ranking => k_is)
    (case l_is_ranking => k_is)
    (case c_is_ranking => k_is)
    (case k_is_ranking => k_is)
    (case a_all_rankings => k_is)
    (case l_all_rankings => k_is)
    (case c_all_rankings => k_is)
    (case k_all_rankings => k_is)
    (case a_prefers => k_is)
    (case l_prefers => k_is)
    (case c_prefers => k_is)
    (case k_prefers => k_is)
    (case a_has_single_peak => k_is)
    (case l_has_single_peak => k_is)
    (case c_has_single_peak => k_is)
    (case k_has_single_peak => k_is)
    (case a_mask_of => k_is)
    (case l_mask_of => k_is)
    (case c_mask_of => k_is)
    (case k_mask_of => k_is)
    (case a_gaining_reports => k_is)
    (case l_gaining_reports => k_is)
    (case c_gaining_reports => k_is)
    (case k_gaining_reports => k_is)
    (case a_first_manipulation => k_is)
    (case l_first_manipulation => k_is)
    (case c_first_manipulation => k_is)
    (case k_first_manipulation => k_is)
    (case a_manipulation_count => k_is)
    (case l_manipulation_count => k_is)
    (case c_manipulation_count => k_is)
    (case k_manipulation_count => k_is)
    (case a_is_dictator => k_is)
    (case l_is_dictator => k_is)
    (case c_is_dictator => k_is)
    (case k_is_dictator => k_is)
    (case a_not_preferred => k_is)
    (case l_not_preferred => k_is)
    (case c_not_preferred => k_is)
    (case k_not_preferred => k_is)
    (case a_not_preferred_by_alternative => k_is)
    (case l_not_preferred_by_alternative => k_is)
    (case c_not_preferred_by_alternative => k_is)
    (case k_not_preferred_by_alternative => k_is)
    (case a_first_that_violates => k_is)
    (case l_first_that_violates => k_is)
    (case c_first_that_violates => k_is)
    (case k_first_that_violates => k_is)
    (case a_first_monotonicity_violation => k_is)
    (case l_first_monotonicity_violation => k_is)
    (case c_first_monotonicity_violation => k_is)
    (case k_first_monotonicity_violation => k_is)
    (case a_first_inefficiency => k_is)
    (case l_first_inefficiency => k_is)
    (case c_first_inefficiency => k_is)
    (case k_first_inefficiency => k_is)
    (case a_dictatorship => k_is)
    (case l_dictatorship => k_is)
    (case c_dictatorship => k_is)
    (case k_dictatorship => k_is)
    (case a_generalized_median => k_is)
    (case l_generalized_median => k_is)
    (case c_generalized_median => k_is)
    (case k_generalized_median => k_is)
    (case a_lowest_with_most => k_is)
    (case l_lowest_with_most => k_is)
    (case c_lowest_with_most => k_is)
    (case k_lowest_with_most => k_is)
    (case a_plurality => k_is)
    (case l_plurality => k_is)
    (case c_plurality => k_is)
    (case k_plurality => k_is)
    (case a_borda => k_is)
    (case l_borda => k_is)
    (case c_borda => k_is)
    (case k_borda => k_is)
    (case a_sequential_majority => k_is)
    (case l_sequential_majority => k_is)
    (case c_sequential_majority => k_is)
    (case k_sequential_majority => k_is)
    (case a_add_preference => k_is)
    (case l_add_preference => k_is)
    (case c_add_preference => k_is)
    (case k_add_preference => k_is)
    (case a_set_full_domain => k_is)
    (case l_set_full_domain => k_is)
    (case c_set_full_domain => k_is)
    (case k_set_full_domain => k_is)
    (case a_set_outcome => k_is)
    (case l_set_outcome => k_is)
    (case c_set_outcome => k_is)
    (case k_set_outcome => k_is)
    (case a_use_dictatorship => k_is)
    (case l_use_dictatorship => k_is)
    (case c_use_dictatorship => k_is)
    (case k_use_dictatorship => k_is)
    (case a_use_generalized_median => k_is)
    (case l_use_generalized_median => k_is)
    (case c_use_generalized_median => k_is)
    (case k_use_generalized_median => k_is)
    (case a_use_plurality => k_is)
    (case l_use_plurality => k_is)
    (case c_use_plurality => k_is)
    (case k_use_plurality => k_is)
    (case a_use_borda => k_is)
    (case l_use_borda => k_is)
    (case c_use_borda => k_is)
    (case k_use_borda => k_is)
    (case a_use_sequential_majority => k_is)
    (case l_use_sequential_majority => k_is)
    (case c_use_sequential_majority => k_is)
    (case k_use_sequential_majority => k_is)
    (case a_outcome => k_is)
    (case l_outcome => k_is)
    (case c_outcome => k_is)
    (case k_outcome => k_is)
    (case a_option_set => k_is)
    (case l_option_set => k_is)
    (case c_option_set => k_is)
    (case k_option_set => k_is)
    (case a_find_manipulation => k_is)
    (case l_find_manipulation => k_is)
    (case c_find_manipulation => k_is)
    (case k_find_manipulation => k_is)
    (case a_count_manipulations => k_is)
    (case l_count_manipulations => k_is)
    (case c_count_manipulations => k_is)
    (case k_count_manipulations => k_is)
    (case a_outcome_range => k_is)
    (case l_outcome_range => k_is)
    (case c_outcome_range => k_is)
    (case k_outcome_range => k_is)
    (case a_dictators => k_is)
    (case l_dictators => k_is)
    (case c_dictators => k_is)
    (case k_dictators => k_is)
    (case a_found_or_not => k_is)
    (case l_found_or_not => k_is)
    (case c_found_or_not => k_is)
    (case k_found_or_not => k_is)
    (case a_monotonicity_violation => k_is)
    (case l_monotonicity_violation => k_is)
    (case c_monotonicity_violation => k_is)
    (case k_monotonicity_violation => k_is)
    (case a_inefficient_profile => k_is)
    (case l_inefficient_profile => k_is)
    (case c_inefficient_profile => k_is)
    (case k_inefficient_profile => k_is)
    (case a_is_single_peaked => k_is)
    (case l_is_single_peaked => k_is)
    (case c_is_single_peaked => k_is)
    (case k_is_single_peaked => k_is)
    (case a_describe => k_is)
    (case l_describe => k_is)
    (case c_describe => k_is)
    (case k_describe => k_is)
    (case a_perform => k_is)
    (case l_perform => k_is)
    (case c_perform => k_is)
    (case k_perform => k_is)
    (case a_Session_new => k_is)
    (case i_Session_new => k_is)
    (case l_Session_new => k_is)
    (case c_Session_new => k_is)
    (case a_Session_carry_out => k_is)
    (case i_Session_carry_out => k_is)
    (case l_Session_carry_out => k_is)
    (case c_Session_carry_out => k_is)
    (case k_Session_carry_out => k_is)
    (case a_Session_create => k_is)
    (case i_Session_create => k_is)
    (case l_Session_create => k_is)
    (case c_Session_create => k_is)
    (case k_Session_create => k_is)
    (case a_answers => k_is)
    (case l_answers => k_is)
    (case c_answers => k_is)
    (case k_answers => k_is)
    (case lD => k_is)
    (case vD => decide +kernel)
  case S =>
    intro K H xs a hO hwi hask hx
    exact Tc.asked_spec hO hwi hask hx
