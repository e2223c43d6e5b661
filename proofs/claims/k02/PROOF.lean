import PyProof.Rows.All
import Wide.All
import OpenK.AllK
import Wide.FinOn
import HandS.ForMost
import HandS.Evl
import HandS.Steps
import HandS.IsInst
import HandS.Wide
import HandS.Deep
import HandS.More
import PySem.Challenge.RW_gatesread_k02_gate_value
set_option Elab.async false
set_option linter.all false
set_option maxRecDepth 100000
set_option maxHeartbeats 4000000

namespace GR
open PySem PySem.Spec PyProof.Rows L2 Evl

/-! ### the known heap G: all that is known stands at G, the heap at hand extends it -/
theorem ex_upd {G H : Hp} (e : Ex G H) (l : Addr) (o : HO) : Ex (upd G l o) (upd H l o) := fun a u h => by
  by_cases q : a = l
  · subst q
    rw [upd_same] at h ⊢
    exact h
  · rw [upd_ne q] at h ⊢
    exact e a u h
theorem ex_to {G H : Hp} {p : Addr} {o : HO} (e : Ex G H) (h : H p = some o) : Ex (upd G p o) H := fun a u g => by
  by_cases q : a = p
  · subst q
    rw [upd_same] at g
    rw [h]
    exact g
  · rw [upd_ne q] at g
    exact e a u g
section
variable {K : PySem.W.Frag} {σ : L2.St} {G H H' : Hp} {ta tb te tx : TE} {t u : TT} {x y z v : V} {D : Ends} {tu tw tz : TS} {g : TG}
/-- x = e, the rest -/
theorem a_set {i : Nat} (e : Ex G H) (h : Ev te σ G v) (k : ∀ H1, Ex G H1 → tz D (σ.set i (some v)) H1) : tSeq (tAsg te (gName i)) tz D σ H :=
  h H e _ fun H1 e1 => k H1 (e.trans e1)
theorem a_setL {i : Nat} {xs : List V} (e : Ex G H) (h : EvL te σ G xs) (k : ∀ p H1, G p = none → Ex (upd G p (.lst xs)) H1 → tz D (σ.set i (some (.ref p))) H1) : tSeq (tAsg te (gName i)) tz D σ H :=
  h H e _ fun p H1 hp e1 h1 => k p H1 (fresh_back e hp) (ex_to (e.trans e1) h1)
theorem a_setU {i : Nat} {xs : List V} (e : Ex G H) (h : EvU te σ G xs) (k : ∀ p H1, G p = none → Ex (upd G p (.tup xs)) H1 → tz D (σ.set i (some (.ref p))) H1) : tSeq (tAsg te (gName i)) tz D σ H :=
  h H e _ fun p H1 hp e1 h1 => k p H1 (fresh_back e hp) (ex_to (e.trans e1) h1)
/-- if -/
theorem a_if {b : Bool} (e : Ex G H) (h : EvT t σ G b) (h1 : b = true → ∀ H1, Ex G H1 → tu D σ H1) (h2 : b = false → ∀ H1, Ex G H1 → tw D σ H1) : tIfS t tu tw D σ H :=
  h H e _ fun H1 e1 => by
    cases b with
    | true => exact h1 rfl H1 (e.trans e1)
    | false => exact h2 rfl H1 (e.trans e1)
theorem a_ifq {b : Bool} (e : Ex G H) (h : EvT t σ G b) (h1 : b = true → ∀ H1, Ex G H1 → tu { D with nx := tz D } σ H1) (h2 : b = false → ∀ H1, Ex G H1 → tw { D with nx := tz D } σ H1) : tSeq (tIfS t tu tw) tz D σ H :=
  a_if (D := { D with nx := tz D }) e h h1 h2
/-- an if without else -/
theorem a_when {b : Bool} (e : Ex G H) (h : EvT t σ G b) (h1 : b = true → ∀ H1, Ex G H1 → tu { D with nx := tz D } σ H1) (h2 : b = false → ∀ H1, Ex G H1 → tz D σ H1) : tSeq (tIfS t tu tNext) tz D σ H :=
  a_if (D := { D with nx := tz D }) e h h1 h2
theorem a_when1 {b : Bool} (e : Ex G H) (h : EvT t σ G b) (h1 : b = true → ∀ H1, Ex G H1 → tu D σ H1) (h2 : b = false → ∀ H1, Ex G H1 → D.nx σ H1) : tIfS t tu tNext D σ H :=
  a_if e h h1 h2
theorem a_ret (e : Ex G H) (h : Ev te σ G v) (k : ∀ H1, Ex G H1 → D.rt v H1) : tRet te D σ H := h H e _ fun H1 e1 => k H1 (e.trans e1)
theorem a_retL {xs : List V} (e : Ex G H) (h : EvL te σ G xs) (k : ∀ p H1, G p = none → Ex G H1 → H1 p = some (.lst xs) → D.rt (.ref p) H1) : tRet te D σ H :=
  h H e _ fun p H1 hp e1 h1 => k p H1 (fresh_back e hp) (e.trans e1) h1
theorem a_retU {xs : List V} (e : Ex G H) (h : EvU te σ G xs) (k : ∀ p H1, G p = none → Ex G H1 → H1 p = some (.tup xs) → D.rt (.ref p) H1) : tRet te D σ H :=
  h H e _ fun p H1 hp e1 h1 => k p H1 (fresh_back e hp) (e.trans e1) h1
/-- xs.append(e), the rest -/
theorem a_app {l : Addr} {xs : List V} (e : Ex G H) (ha : Ev ta σ G (.ref l)) (hl : G l = some (.lst xs)) (h : Ev te σ G v) (hz : xs.length < 100000) (k : ∀ H1, Ex (upd G l (.lst (xs ++ [v]))) H1 → tz D σ H1) :
    tSeq (tDrop (tBM K "list" rAppend ta (tCons te tNil))) tz D σ H :=
  ha H e _ fun H1 e1 => ⟨Or.inl ⟨rfl, xs, sq_of (e1 l _ (e l _ hl))⟩, h H1 (e.trans e1) _ fun H2 e2 => ⟨l, xs, v, rfl, rfl, e2 l _ (e1 l _ (e l _ hl)), sz_lt hz, k _ (ex_upd ((e.trans e1).trans e2) l _)⟩⟩
theorem a_app1 {l : Addr} {xs : List V} (e : Ex G H) (ha : Ev ta σ G (.ref l)) (hl : G l = some (.lst xs)) (h : Ev te σ G v) (hz : xs.length < 100000) (k : ∀ H1, Ex (upd G l (.lst (xs ++ [v]))) H1 → D.nx σ H1) :
    tDrop (tBM K "list" rAppend ta (tCons te tNil)) D σ H :=
  ha H e _ fun H1 e1 => ⟨Or.inl ⟨rfl, xs, sq_of (e1 l _ (e l _ hl))⟩, h H1 (e.trans e1) _ fun H2 e2 => ⟨l, xs, v, rfl, rfl, e2 l _ (e1 l _ (e l _ hl)), sz_lt hz, k _ (ex_upd ((e.trans e1).trans e2) l _)⟩⟩
theorem a_set1 {i : Nat} (e : Ex G H) (h : Ev te σ G v) (k : ∀ H1, Ex G H1 → D.nx (σ.set i (some v)) H1) : tAsg te (gName i) D σ H :=
  h H e _ fun H1 e1 => k H1 (e.trans e1)
/-- for i in range(n) -/
theorem a_forR {ta : TA} {j : Nat} {n : Int} (e : Ex G H) (h : EvA ta σ G [.int n]) (hn : 0 ≤ n ∧ n ≤ 100000) (Pv : Nat → L2.St → Hp → Prop) (h0 : ∀ H1, Ex G H1 → Pv 0 σ H1)
    (hs : ∀ (i : Nat) σ' H', (i : Int) < n → Pv i σ' H' → tu { D with nx := Pv (i + 1), ct := Pv (i + 1), bk := tz D } (σ'.set j (some (.int (i : Int)))) H') (hd : ∀ σ' H', Pv n.toNat σ' H' → tz D σ' H') : tSeq (tFor (iRng1 ta) (gName j) tu) tz D σ H :=
  s_forR1 (D := { D with nx := tz D }) (fun H1 e1 => h H1 (e.trans e1)) hn Pv (fun H1 e1 => h0 H1 (e.trans e1)) hs hd
end
end GR
namespace GR
open PySem PySem.Spec PyProof.Rows L2 Evl
section
variable {K : PySem.W.Frag} {σ : L2.St} {G H H' : Hp} {ta tb te tx : TE} {t u : TT} {x y z v : V} {D : Ends} {tu tw tz : TS} {g : TG}
/-- int(n) -/
theorem ev_int1 {i : Int} (h : Ev ta σ G (.int i)) : Ev (tCB (fun xs H Q => (∃ i, xs = [V.int i] ∧ Q (.int i) H) ∨ ∃ k, xs = [V.bl k] ∧ Q (.int (if k then 1 else 0)) H) (tCons ta tNil)) σ G (.int i) := fun H1 e Q q =>
  h H1 e _ fun H2 e2 => Or.inl ⟨i, rfl, q H2 e2⟩
theorem ev_int1b {b : Bool} (h : Ev ta σ G (.bl b)) : Ev (tCB (fun xs H Q => (∃ i, xs = [V.int i] ∧ Q (.int i) H) ∨ ∃ k, xs = [V.bl k] ∧ Q (.int (if k then 1 else 0)) H) (tCons ta tNil)) σ G (.int (if b then 1 else 0)) := fun H1 e Q q =>
  h H1 e _ fun H2 e2 => Or.inr ⟨b, rfl, q H2 e2⟩
theorem ev_lenS {p : Addr} {xs : List V} (ha : Ev ta σ G (.ref p)) (h : SqL K G p xs) : Ev (tCB (fun xs H Q => ∃ p ys, xs = [V.ref p] ∧ (SqL K H p ys ∨ SqT K H p ys) ∧ Q (.int ys.length) H) (tCons ta tNil)) σ G (.int (xs.length : Int)) := fun H1 e Q q =>
  ha H1 e _ fun H2 e2 => ⟨p, xs, rfl, Or.inl (ex_l (e.trans e2) h), q H2 e2⟩
theorem ev_lenT {p : Addr} {xs : List V} (ha : Ev ta σ G (.ref p)) (h : SqT K G p xs) : Ev (tCB (fun xs H Q => ∃ p ys, xs = [V.ref p] ∧ (SqL K H p ys ∨ SqT K H p ys) ∧ Q (.int ys.length) H) (tCons ta tNil)) σ G (.int (xs.length : Int)) := fun H1 e Q q =>
  ha H1 e _ fun H2 e2 => ⟨p, xs, rfl, Or.inr (ex_t (e.trans e2) h), q H2 e2⟩
theorem hu64 {A : Around} {k : Nat} (hr : Room k A) : A.units + 64 < cLine := hr.units
theorem pe_const {X : Cx} {x : Str} {v : V} {pos : Pos} (hg : Gl X x) (h : ∃ u, X.mg x = some u ∧ RelV v u) (hd : (x == ("__debug__" : Str)) = false := by decide) : PE X (.Name x pos) (tC v) := by
  obtain ⟨u, hm, r⟩ := h
  exact pe_glob hg hm r hd
end
/-- drawn numbers -/
structure Draw (ns sizes : List Int) : Prop where
  len : ns.length = sizes.length
  at_ : ∀ k, k < sizes.length → 0 ≤ ns.getD k 0 ∧ ns.getD k 0 < sizes.getD k 0
/-- the k-th cell of the script -/
def cellOf (ns : List Int) (k : Nat) : Int := ns.getD k 0
theorem at_map {ns : List Int} {k : Nat} (h : k < ns.length) : atI (ns.map V.int) (k : Int) = some (.int (ns.getD k 0)) := by
  have e : (ns.map V.int)[k]? = some (.int (ns.getD k 0)) := by
    rw [List.getElem?_map, List.getElem?_eq_getElem h, List.getD_eq_getElem?_getD, List.getElem?_eq_getElem h]
    rfl
  exact atI_nat e
end GR
namespace GR
open PySem PySem.Spec PyProof.Rows L2 Evl
section
variable {K : PySem.W.Frag} {σ : L2.St} {G H H' : Hp} {ta tb tc te tx : TE} {t u : TT} {x y z v : V} {D : Ends} {tu tw tz : TS} {g : TG}
/-- isinstance(x, T) -/
theorem ev_isi {c : V} {ty un : Value} {b : Bool} (h : Ev ta σ G x) (hc : Ev tb σ G c) (cv : ClsV c un) (hk : PySem.W.kitOne K ty un = some b) (ht : ∀ H1, Ex G H1 → TyX K H1 x ty) : Ev (tCB (rIsi K) (tCons ta (tCons tb tNil))) σ G (.bl b) := fun H1 e Q q =>
  h H1 e _ fun H2 e2 => hc H2 (e.trans e2) _ fun H3 e3 => ⟨x, c, ty, un, b, rfl, cv, ht H3 ((e.trans e2).trans e3), hk, q H3 (e2.trans e3)⟩
theorem ev_isiInt {i : Int} (h : Ev ta σ G (.int i)) : Ev (tCB (rIsi K) (tCons ta (tCons (tC (.ty "int")) tNil))) σ G (.bl true) := ev_isi h ev_c (.ty _) (kit_ty (by decide +kernel)) fun _ _ => .base (.int i)
theorem ev_isiIntB {i : Int} (h : Ev ta σ G (.int i)) : Ev (tCB (rIsi K) (tCons ta (tCons (tC (.ty "bool")) tNil))) σ G (.bl false) := ev_isi h ev_c (.ty _) (kit_ty (by decide +kernel)) fun _ _ => .base (.int i)
theorem ev_isiBl {i : Bool} (h : Ev ta σ G (.bl i)) : Ev (tCB (rIsi K) (tCons ta (tCons (tC (.ty "bool")) tNil))) σ G (.bl true) := ev_isi h ev_c (.ty _) (kit_ty (by decide +kernel)) fun _ _ => .base (.bl i)
theorem ev_isiStr {i : Str} (h : Ev ta σ G (.str i)) : Ev (tCB (rIsi K) (tCons ta (tCons (tC (.ty "str")) tNil))) σ G (.bl true) := ev_isi h ev_c (.ty _) (kit_ty (by decide +kernel)) fun _ _ => .base (.str i)
theorem ev_isiLst {p : Addr} {xs : List V} (h : Ev ta σ G (.ref p)) (hl : G p = some (.lst xs)) : Ev (tCB (rIsi K) (tCons ta (tCons (tC (.ty "list")) tNil))) σ G (.bl true) := ev_isi h ev_c (.ty _) (kit_ty (by decide +kernel)) fun _ e => .base (.lst (e _ _ hl))
theorem ev_isiTup {p : Addr} {xs : List V} (h : Ev ta σ G (.ref p)) (hl : G p = some (.tup xs)) : Ev (tCB (rIsi K) (tCons ta (tCons (tC (.ty "tuple")) tNil))) σ G (.bl true) := ev_isi h ev_c (.ty _) (kit_ty (by decide +kernel)) fun _ e => .base (.tup (e _ _ hl))
theorem tyx_tup {p : Addr} {xs : List V} (h : SqT K G p xs) : ∀ H1, Ex G H1 → TyX K H1 (.ref p) (.type "tuple") := fun H1 e => by
  rcases h with (h | ⟨o, h⟩) | ⟨o, its, n, h1, h2, _⟩
  · exact .base (.tup (e _ _ h))
  · exact .fTuple (e _ _ h)
  · exact .kTuple h1 h2
theorem ev_isiTupS {p : Addr} {xs : List V} (h : Ev ta σ G (.ref p)) (hl : SqT K G p xs) : Ev (tCB (rIsi K) (tCons ta (tCons (tC (.ty "tuple")) tNil))) σ G (.bl true) := ev_isi h ev_c (.ty _) (kit_ty (by decide +kernel)) (tyx_tup hl)
/-- sum, max, min of a list of ints -/
theorem ev_sum {p : Addr} {ns : List Int} (h : Ev ta σ G (.ref p)) (hs : SqL K G p (ns.map V.int)) : Ev (tCB (rSum K) (tCons ta tNil)) σ G (.int ns.sum) := fun H1 e Q q =>
  h H1 e _ fun H2 e2 => ⟨p, ns, rfl, ex_l (e.trans e2) hs, q H2 e2⟩
theorem ev_max {p : Addr} {ns : List Int} {m : Int} (h : Ev ta σ G (.ref p)) (hs : SqL K G p (ns.map V.int)) (hm : m ∈ ns) (hx : ∀ y, y ∈ ns → y ≤ m) : Ev (tCB (rMax K) (tCons ta tNil)) σ G (.int m) := fun H1 e Q q =>
  h H1 e _ fun H2 e2 => ⟨p, ns, rfl, ex_l (e.trans e2) hs, List.length_pos_of_mem hm, fun m' h1 h2 => by
    have e3 : m' = m := Int.le_antisymm (hx _ h1) (h2 _ hm)
    rw [e3]
    exact q H2 e2⟩
theorem ev_min {p : Addr} {ns : List Int} {m : Int} (h : Ev ta σ G (.ref p)) (hs : SqL K G p (ns.map V.int)) (hm : m ∈ ns) (hx : ∀ y, y ∈ ns → m ≤ y) : Ev (tCB (rMin K) (tCons ta tNil)) σ G (.int m) := fun H1 e Q q =>
  h H1 e _ fun H2 e2 => ⟨p, ns, rfl, ex_l (e.trans e2) hs, List.length_pos_of_mem hm, fun m' h1 h2 => by
    have e3 : m' = m := Int.le_antisymm (h2 _ hm) (hx _ h1)
    rw [e3]
    exact q H2 e2⟩
/-- a slice of a text -/
theorem ev_slS {tl th : TO} {w : Str} {lo hi : Option Int} (h : Ev te σ G (.str w)) (h1 : EvO tl σ G lo) (h2 : EvO th σ G hi) (hz : w.length ≤ 100000) : Ev (tSl rSlS te tl th) σ G (.str (cutS w lo hi)) := fun H1 e Q q =>
  h H1 e _ fun H2 e2 => h1 H2 (e.trans e2) _ fun H3 e3 => h2 H3 ((e.trans e2).trans e3) _ fun H4 e4 => ⟨w, rfl, sz_of hz, q H4 ((e2.trans e3).trans e4)⟩
/-- d[k], d a dict of the module -/
theorem rv_kd {w : World} {p : Addr} {k : Str} (h : KDct K w p k v) : RV (rIxD K w) (.ref p) (.str k) G v := fun H1 _ _ q => ⟨p, k, v, rfl, rfl, h, q H1 (Ex.refl H1)⟩
/-- == of data -/
theorem dp_mono {G H : Hp} (e : Ex G H) : ∀ {v : V} {d : PyData}, Dp K G v d → Dp K H v d := by
  intro v d h
  refine Dp.rec (motive_1 := fun v d _ => Dp K H v d) (motive_2 := fun vs ds _ => DpAll K H vs ds) .non .bl .int .str (fun h _ ih => .lst (ex_l e h) ih) (fun h _ ih => .tup (ex_t e h) ih) .nil (fun _ _ a b => .cons a b) h
theorem rv_eqD {d1 d2 : PyData} (h1 : Dp K G x d1) (h2 : Dp K G y d2) (s1 : SeqAt.shaped d1 = true) (s2 : SeqAt.shaped d2 = true) : RV (rEqD K) x y G (.bl (PyData.eqv d1 d2)) := fun H1 e _ q => ⟨d1, d2, dp_mono e h1, dp_mono e h2, s1, s2, q H1 (Ex.refl H1)⟩
theorem rv_neD {d1 d2 : PyData} (h1 : Dp K G x d1) (h2 : Dp K G y d2) (s1 : SeqAt.shaped d1 = true) (s2 : SeqAt.shaped d2 = true) : RV (rNeD K) x y G (.bl (!PyData.eqv d1 d2)) := fun H1 e _ q => ⟨d1, d2, dp_mono e h1, dp_mono e h2, s1, s2, q H1 (Ex.refl H1)⟩
theorem dpAll_ints (ns : List Int) : DpAll K G (ns.map V.int) (ns.map PyData.int) := by
  induction ns with
  | nil => exact .nil
  | cons n r ih => exact .cons (.int n) ih
theorem dp_ints {p : Addr} {ns : List Int} (h : SqL K G p (ns.map V.int)) : Dp K G (.ref p) (.list (ns.map PyData.int)) := .lst h (dpAll_ints ns)
theorem canLay_ints (ns : List Int) : PyData.canLayAll0 (ns.map PyData.int) = true := by
  induction ns with
  | nil => first | rfl | simp [PyData.canLayAll0]
  | cons n r ih => simp [PyData.canLayAll0, PyData.canLay0, ih]
theorem depth_ints (ns : List Int) : PyData.depthAll (ns.map PyData.int) ≤ 1 := by
  induction ns with
  | nil => simp [PyData.depthAll]
  | cons n r ih => simp [PyData.depthAll, PyData.depth]; omega
theorem shaped_ints (ns : List Int) : SeqAt.shaped (.list (ns.map PyData.int)) = true := by
  have h := depth_ints ns
  simp [SeqAt.shaped, PyData.canLay0, PyData.depth, canLay_ints]
  omega
theorem eqv_ints : ∀ ns ms : List Int, PyData.eqvAll (ns.map PyData.int) (ms.map PyData.int) = decide (ns = ms)
  | [], [] => by simp [PyData.eqvAll]
  | [], _ :: _ => by simp [PyData.eqvAll]
  | _ :: _, [] => by simp [PyData.eqvAll]
  | n :: r, m :: s => by
    simp [PyData.eqvAll, PyData.eqv, eqv_ints r s]
    by_cases h : n = m <;> simp [h]
theorem eqvL_ints (ns ms : List Int) : PyData.eqv (.list (ns.map PyData.int)) (.list (ms.map PyData.int)) = decide (ns = ms) := by
  rw [PyData.eqv, eqv_ints]
theorem rv_eqInts {p q : Addr} {ns ms : List Int} (h1 : SqL K G p (ns.map V.int)) (h2 : SqL K G q (ms.map V.int)) : RV (rEqD K) (.ref p) (.ref q) G (.bl (decide (ns = ms))) := by
  rw [← eqvL_ints]
  exact rv_eqD (dp_ints h1) (dp_ints h2) (shaped_ints ns) (shaped_ints ms)
theorem rv_neInts {p q : Addr} {ns ms : List Int} (h1 : SqL K G p (ns.map V.int)) (h2 : SqL K G q (ms.map V.int)) : RV (rNeD K) (.ref p) (.ref q) G (.bl (!decide (ns = ms))) := by
  rw [← eqvL_ints]
  exact rv_neD (dp_ints h1) (dp_ints h2) (shaped_ints ns) (shaped_ints ms)
/-- list(xs) of a list -/
theorem el_listL {p : Addr} {xs : List V} (ha : Ev ta σ G (.ref p)) (h : SqL K G p xs) : EvL (tCB (fun xs H Q => ∃ p ys, xs = [V.ref p] ∧ (SqL K H p ys ∨ SqT K H p ys) ∧ ∀ l, H l = none → Q (.ref l) (upd H l (.lst ys))) (tCons ta tNil)) σ G xs := fun H1 e Q q =>
  ha H1 e _ fun H2 e2 => ⟨p, xs, rfl, Or.inl (ex_l (e.trans e2) h), fun l hl => q l _ (fresh_back e2 hl) (e2.trans (Ex.new hl)) upd_same⟩
theorem el_listT {p : Addr} {xs : List V} (ha : Ev ta σ G (.ref p)) (h : SqT K G p xs) : EvL (tCB (fun xs H Q => ∃ p ys, xs = [V.ref p] ∧ (SqL K H p ys ∨ SqT K H p ys) ∧ ∀ l, H l = none → Q (.ref l) (upd H l (.lst ys))) (tCons ta tNil)) σ G xs := fun H1 e Q q =>
  ha H1 e _ fun H2 e2 => ⟨p, xs, rfl, Or.inr (ex_t (e.trans e2) h), fun l hl => q l _ (fresh_back e2 hl) (e2.trans (Ex.new hl)) upd_same⟩
/-- int(text) -/
theorem ev_intS {a : Str} {n : Int} (h : Ev ta σ G (.str a)) (h1 : PySem.intText? a = some n) (h2 : a.length ≤ 640) : Ev (tCB (fun xs H Q => ∃ a n, xs = [V.str a] ∧ PySem.intText? a = some n ∧ a.length ≤ 640 ∧ Q (.int n) H) (tCons ta tNil)) σ G (.int n) := fun H1 e Q q =>
  h H1 e _ fun H2 e2 => ⟨a, n, rfl, h1, h2, q H2 e2⟩
/-- calls -/
theorem ev_call1 {sp : Sp} {vs : List V} {E : XK} {ta : TA} (h : EvA ta σ G vs) (hs : ∀ H1, Ex G H1 → ∀ Q : VK, RetV z H1 Q → ∀ E, sp vs H1 Q E) : Ev (tCall sp [] E ta) σ G z :=
  ev_call h (by rw [List.append_nil]; exact fun H1 e Q q E => hs H1 e Q q E)
theorem el_call1 {sp : Sp} {vs xs : List V} {E : XK} {ta : TA} (h : EvA ta σ G vs) (hs : ∀ H1, Ex G H1 → ∀ Q : VK, RetL xs H1 Q → ∀ E, sp vs H1 Q E) : EvL (tCall sp [] E ta) σ G xs :=
  el_call h (by rw [List.append_nil]; exact fun H1 e Q q E => hs H1 e Q q E)
end
end GR
namespace GR
open PySem PySem.Spec PyProof.Rows L2 Evl
section
variable {K : PySem.W.Frag} {σ : L2.St} {G H H' : Hp} {ta tb tc te tx : TE} {t u : TT} {x y z v : V} {D : Ends} {tu tw tz : TS} {g : TG}
/-! ### dicts -/
def constPairs (kvs : List (Str × Int)) : List (TE × TE) := kvs.map fun p => (tC (.str p.1), tC (.int p.2))
theorem pairs_const : ∀ (kvs : List (Str × Int)) (σ : L2.St) (H : Hp) (F : List (V × V) → Hp → Prop), F (kvs.map fun p => (V.str p.1, V.int p.2)) H → tPairs (constPairs kvs) σ H F
  | [], _, _, _, h => h
  | p :: r, σ, H, F, h => pairs_const r σ H (fun ps H3 => F ((V.str p.1, V.int p.2) :: ps) H3) h
/-- d = {'a': 1, ..}, the rest -/
theorem a_setDC {i : Nat} (kvs : List (Str × Int)) (hl : kvs.length ≤ 15) (e : Ex G H) (k : ∀ p H1, G p = none → Ex (upd G p (.dK (mergeK [] (kvs.map fun x => ((Sum.inr x.1 : Key), V.int x.2))))) H1 → tz D (σ.set i (some (.ref p))) H1) : tSeq (tAsg (tDisp (constPairs kvs)) (gName i)) tz D σ H := fun p hp =>
  pairs_const kvs σ _ _ ⟨upd_same, kvs.map fun x => ((Sum.inr x.1 : Key), V.int x.2), by rw [List.map_map]; rfl, by rw [List.length_map]; exact hl, k p _ (fresh_back e hp) (by
    rw [upd_upd]
    exact ex_upd e p _)⟩
/-- d[k] -/
theorem ev_dget {p : Addr} {kvs : List (Key × V)} {k : Key} (h1 : Ev ta σ G (.ref p)) (h2 : Ev tb σ G (kV k)) (hp : G p = some (.dK kvs)) (hv : valV kvs k = some v) : Ev (tDGet ta tb) σ G v := fun H1 e Q q =>
  h1 H1 e _ fun H2 e2 => h2 H2 (e.trans e2) _ fun H3 e3 => ⟨p, v, rfl, by
    rw [← hv]
    exact DGet.k (((e.trans e2).trans e3) p _ hp), q H3 (e2.trans e3)⟩
/-- k in d, k not in d -/
theorem ev_din {p : Addr} {kvs : List (Key × V)} {k : Key} (h1 : Ev ta σ G (.ref p)) (h2 : Ev tb σ G (kV k)) (hp : G p = some (.dK kvs)) : Ev (tDIn tb ta) σ G (.bl (valV kvs k).isSome) := fun H1 e Q q =>
  h2 H1 e _ fun H2 e2 => h1 H2 (e.trans e2) _ fun H3 e3 => ⟨p, _, rfl, DGet.k (((e.trans e2).trans e3) p _ hp), q H3 (e2.trans e3)⟩
theorem ev_dnotin {p : Addr} {kvs : List (Key × V)} {k : Key} (h1 : Ev ta σ G (.ref p)) (h2 : Ev tb σ G (kV k)) (hp : G p = some (.dK kvs)) : Ev (tDNotIn tb ta) σ G (.bl (!(valV kvs k).isSome)) := fun H1 e Q q =>
  h2 H1 e _ fun H2 e2 => h1 H2 (e.trans e2) _ fun H3 e3 => ⟨p, _, rfl, DGet.k (((e.trans e2).trans e3) p _ hp), q H3 (e2.trans e3)⟩
/-- d = {}, the rest -/
theorem a_setD0 {i : Nat} (e : Ex G H) (k : ∀ p H1, G p = none → Ex (upd G p (.dK [])) H1 → tz D (σ.set i (some (.ref p))) H1) : tSeq (tAsg tDNewK (gName i)) tz D σ H := fun p hp =>
  k p _ (fresh_back e hp) (ex_upd e p _)
/-- d[k] = v, the rest -/
theorem a_dput {p : Addr} {kvs : List (Key × V)} {k : Key} (e : Ex G H) (h : Ev tc σ G v) (h1 : Ev ta σ G (.ref p)) (h2 : Ev tb σ G (kV k)) (hp : G p = some (.dK kvs)) (hz : kvs.length < 100000) (q : ∀ H1, Ex (upd G p (.dK (putK kvs k v))) H1 → tz D σ H1) : tSeq (sDPut ta tb tc) tz D σ H :=
  h H e _ fun H1 e1 => h1 H1 (e.trans e1) _ fun H2 e2 => h2 H2 ((e.trans e1).trans e2) _ fun H3 e3 => ⟨p, _, rfl, DPut.k ((((e.trans e1).trans e2).trans e3) p _ hp) (sz_lt hz), q _ (ex_upd (((e.trans e1).trans e2).trans e3) p _)⟩
theorem a_dput1 {p : Addr} {kvs : List (Key × V)} {k : Key} (e : Ex G H) (h : Ev tc σ G v) (h1 : Ev ta σ G (.ref p)) (h2 : Ev tb σ G (kV k)) (hp : G p = some (.dK kvs)) (hz : kvs.length < 100000) (q : ∀ H1, Ex (upd G p (.dK (putK kvs k v))) H1 → D.nx σ H1) : sDPut ta tb tc D σ H :=
  h H e _ fun H1 e1 => h1 H1 (e.trans e1) _ fun H2 e2 => h2 H2 ((e.trans e1).trans e2) _ fun H3 e3 => ⟨p, _, rfl, DPut.k ((((e.trans e1).trans e2).trans e3) p _ hp) (sz_lt hz), q _ (ex_upd (((e.trans e1).trans e2).trans e3) p _)⟩
/-- for x in xs -/
theorem a_forL {p : Addr} {xs : List V} {tl : TE} {j : Nat} (e : Ex G H) (h : Ev tl σ G (.ref p)) (hx : SqL K G p xs) (Pv : Nat → L2.St → Hp → Prop) (h0 : ∀ H1, Ex G H1 → Pv 0 σ H1) (hl : ∀ i σ' H', i ≤ xs.length → Pv i σ' H' → SqL K H' p xs)
    (hs : ∀ i x σ' H', xs[i]? = some x → Pv i σ' H' → tu { D with nx := Pv (i + 1), ct := Pv (i + 1), bk := tz D } (σ'.set j (some x)) H') (hd : ∀ σ' H', Pv xs.length σ' H' → tz D σ' H') : tSeq (tFor (iList K tl) (gName j) tu) tz D σ H :=
  q_forLn (h.mono e) (ex_l e hx) Pv (fun H1 e1 => h0 H1 (e.trans e1)) hl hs hd
theorem a_forNL {xs : List V} {tl : TE} {j : Nat} (e : Ex G H) (h : EvL tl σ G xs) (Pv : Addr → Nat → L2.St → Hp → Prop) (h0 : ∀ p H1, G p = none → Ex (upd G p (.lst xs)) H1 → Pv p 0 σ H1) (hl : ∀ p i σ' H', i ≤ xs.length → Pv p i σ' H' → SqL K H' p xs)
    (hs : ∀ p i x σ' H', xs[i]? = some x → Pv p i σ' H' → tu { D with nx := Pv p (i + 1), ct := Pv p (i + 1), bk := tz D } (σ'.set j (some x)) H') (hd : ∀ p σ' H', Pv p xs.length σ' H' → tz D σ' H') : tSeq (tFor (iList K tl) (gName j) tu) tz D σ H :=
  q_forNLn (h.mono e) Pv (fun p H1 hp e1 hx => h0 p H1 (fresh_back e hp) (ex_to (e.trans e1) hx)) hl hs hd
theorem a_forT {p : Addr} {xs : List V} {tl : TE} {j : Nat} (e : Ex G H) (h : Ev tl σ G (.ref p)) (hx : SqT K G p xs) (Pv : Nat → L2.St → Hp → Prop) (h0 : ∀ H1, Ex G H1 → Pv 0 σ H1) (hl : ∀ i σ' H', i ≤ xs.length → Pv i σ' H' → SqT K H' p xs)
    (hs : ∀ i x σ' H', xs[i]? = some x → Pv i σ' H' → tu { D with nx := Pv (i + 1), ct := Pv (i + 1), bk := tz D } (σ'.set j (some x)) H') (hd : ∀ σ' H', Pv xs.length σ' H' → tz D σ' H') : tSeq (tFor (iTup K tl) (gName j) tu) tz D σ H :=
  q_forT (h.mono e) (ex_t e hx) Pv (fun H1 e1 => h0 H1 (e.trans e1)) hl hs hd
end
end GR
namespace GR
open PySem PySem.Spec PyProof.Rows L2 Evl
section
variable {K : PySem.W.Frag} {σ : L2.St} {G H H' : Hp} {ta tb tc te tx : TE} {t u : TT} {x y z v : V} {D : Ends} {tu tw tz : TS} {g : TG}
/-- a new list of which P holds -/
def EvN (te : TE) (σ : L2.St) (G : Hp) (P : List V → Prop) : Prop := ∀ H1, Ex G H1 → ∀ Q : VK, (∀ xs p H2, P xs → H1 p = none → Ex H1 H2 → H2 p = some (.lst xs) → Q (.ref p) H2) → te σ H1 Q
theorem a_setN {i : Nat} {P : List V → Prop} (e : Ex G H) (h : EvN te σ G P) (k : ∀ xs p H1, P xs → G p = none → Ex (upd G p (.lst xs)) H1 → tz D (σ.set i (some (.ref p))) H1) : tSeq (tAsg te (gName i)) tz D σ H :=
  h H e _ fun xs p H1 hP hp e1 h1 => k xs p H1 hP (fresh_back e hp) (ex_to (e.trans e1) h1)
theorem en_callL {sp : Sp} {E : XK} {xs : List V} {P : List V → Prop} (h1 : Ev ta σ G x) (h2 : ∀ H1, Ex G H1 → EvL tb σ H1 xs) (hs : ∀ p H1, Ex G H1 → H1 p = some (.lst xs) → ∀ Q : VK, (∀ ys q H2, P ys → H1 q = none → Ex H1 H2 → H2 q = some (.lst ys) → Q (.ref q) H2) → ∀ E, sp [x, .ref p] H1 Q E) : EvN (tCall sp [] E (tCons ta (tCons tb tNil))) σ G P := fun H1 e Q q =>
  h1 H1 e _ fun H2 e2 => h2 H2 (e.trans e2) H2 (Ex.refl H2) _ fun p H3 hp e3 h3 => hs p H3 ((e.trans e2).trans e3) h3 Q (fun ys r H4 hP hr e4 h4 => q ys r H4 hP (fresh_back (e2.trans e3) hr) ((e2.trans e3).trans e4) h4) E
end
end GR
namespace GR
open PySem PySem.Spec PyProof.Rows L2 Evl
section
variable {X : Cx}
/-- xs + ys, two lists that may be read -/
def rCatL (K : PySem.W.Frag) : R2 := fun x y H Q => ∃ l b xs zs, x = .ref l ∧ y = .ref b ∧ SqL K H l xs ∧ SqL K H b zs ∧ xs.length + zs.length ≤ sizeLine ∧ ∀ p, H p = none → Q (.ref p) (upd H p (.lst (xs ++ zs)))
theorem op_catL : OpR X (binaryOp .Add) (rCatL X.K) := by
  intro pins s σ H x y v u Q I rx ry h
  obtain ⟨l, b, xs, zs, rfl, rfl, hH, hB, hz, q⟩ := h
  cases rx
  cases ry
  obtain ⟨its, r, pl, hl⟩ := I.list hH
  obtain ⟨its2, r2, pl2, hl2⟩ := I.list hB
  obtain ⟨⟨cls, dd, data, sl⟩, n, ho, hc, hdd, hd⟩ := id pl
  obtain ⟨⟨cls2, dd2, data2, sl2⟩, n2, ho2, hc2, hdd2, hd2⟩ := id pl2
  simp only at hc hd hc2 hd2
  subst hc hd hc2 hd2
  have e : its.toArray ++ its2.toArray = (its ++ its2).toArray := by simp
  have len1 := r.length
  have len2 := r2.length
  refine concat_meets ⟨_, ho, rfl⟩ ⟨_, ho2, rfl⟩ noFill_list_add seq_list_add PySem.F.slot_list_add PySem.F.entry_list_add (PySem.F.args_list_add_2 _ _) (list_addW l b its.toArray its2.toArray n n2 dd dd2 sl sl2 (by simp; omega)) ⟨ho, ho2, ?_⟩
  rw [e]
  exact ⟨.ref _, _, I.lnew (t' := s.toks) (r.append r2) (by rw [List.length_append]; omega), rfl, q _ I.fresh⟩
end
section
variable {K : PySem.W.Frag} {σ : L2.St} {G H H' : Hp} {ta tb tc te tx : TE} {t u : TT} {x y z v : V} {D : Ends} {tu tw tz : TS} {g : TG}
theorem el_catL {l b : Addr} {xs zs : List V} (h1 : Ev ta σ G (.ref l)) (h2 : Ev tb σ G (.ref b)) (s1 : SqL K G l xs) (s2 : SqL K G b zs) (hz : xs.length + zs.length ≤ 100000) : EvL (tOp (rCatL K) ta tb) σ G (xs ++ zs) := fun H1 e Q q =>
  h1 H1 e _ fun H2 e2 => h2 H2 (e.trans e2) _ fun H3 e3 => ⟨l, b, xs, zs, rfl, rfl, ex_l ((e.trans e2).trans e3) s1, ex_l ((e.trans e2).trans e3) s2, sz_of hz, fun p hp => q p _ (fresh_back (e2.trans e3) hp) ((e2.trans e3).trans (Ex.new hp)) upd_same⟩
/-- .. the first a new list, .. the second, .. both -/
theorem el_catNL {b : Addr} {xs zs : List V} (h1 : EvL ta σ G xs) (h2 : ∀ H1, Ex G H1 → Ev tb σ H1 (.ref b)) (s2 : SqL K G b zs) (hz : xs.length + zs.length ≤ 100000) : EvL (tOp (rCatL K) ta tb) σ G (xs ++ zs) := fun H1 e Q q =>
  h1 H1 e _ fun l H2 hl e2 hx => h2 H2 (e.trans e2) H2 (Ex.refl H2) _ fun H3 e3 => ⟨l, b, xs, zs, rfl, rfl, sq_of (e3 _ _ hx), ex_l ((e.trans e2).trans e3) s2, sz_of hz, fun p hp => q p _ (fresh_back (e2.trans e3) hp) ((e2.trans e3).trans (Ex.new hp)) upd_same⟩
theorem el_catLN {l : Addr} {xs zs : List V} (h1 : Ev ta σ G (.ref l)) (s1 : SqL K G l xs) (h2 : ∀ H1, Ex G H1 → EvL tb σ H1 zs) (hz : xs.length + zs.length ≤ 100000) : EvL (tOp (rCatL K) ta tb) σ G (xs ++ zs) := fun H1 e Q q =>
  h1 H1 e _ fun H2 e2 => h2 H2 (e.trans e2) H2 (Ex.refl H2) _ fun b H3 hb e3 hx => ⟨l, b, xs, zs, rfl, rfl, ex_l ((e.trans e2).trans e3) s1, sq_of hx, sz_of hz, fun p hp => q p _ (fresh_back (e2.trans e3) hp) ((e2.trans e3).trans (Ex.new hp)) upd_same⟩
theorem el_catNN {xs zs : List V} (h1 : EvL ta σ G xs) (h2 : ∀ H1, Ex G H1 → EvL tb σ H1 zs) (hz : xs.length + zs.length ≤ 100000) : EvL (tOp (rCatL K) ta tb) σ G (xs ++ zs) := fun H1 e Q q =>
  h1 H1 e _ fun l H2 hl e2 hx => h2 H2 (e.trans e2) H2 (Ex.refl H2) _ fun b H3 hb e3 hy => ⟨l, b, xs, zs, rfl, rfl, sq_of (e3 _ _ hx), sq_of hy, sz_of hz, fun p hp => q p _ (fresh_back (e2.trans e3) hp) ((e2.trans e3).trans (Ex.new hp)) upd_same⟩
/-- a slice of a new list -/
theorem el_slN {tl th : TO} {xs : List V} {lo hi : Option Int} (h : EvL te σ G xs) (h1 : ∀ H1, Ex G H1 → EvO tl σ H1 lo) (h2 : ∀ H1, Ex G H1 → EvO th σ H1 hi) : EvL (tSl (rSlL K) te tl th) σ G (cutV xs lo hi) := fun H1 e Q q =>
  h H1 e _ fun a H2 ha e2 hx => h1 H2 (e.trans e2) H2 (Ex.refl H2) _ fun H3 e3 => h2 H3 ((e.trans e2).trans e3) H3 (Ex.refl H3) _ fun H4 e4 =>
    ⟨a, xs, rfl, sq_of (e4 _ _ (e3 _ _ hx)), fun p hp => q p _ (fresh_back ((e2.trans e3).trans e4) hp) (((e2.trans e3).trans e4).trans (Ex.new hp)) upd_same⟩
theorem cutV_to {xs : List V} {n : Nat} : cutV xs none (some (n : Int)) = xs.take n := by
  unfold cutV
  rw [HT.sIx_none, show HT.sIx xs.length xs.length (some (n : Int)) = min n xs.length from HT.sIx_nat xs.length xs.length n]
  simp
theorem cutV_from {xs : List V} {n : Nat} : cutV xs (some (n : Int)) none = xs.drop n := by
  unfold cutV
  rw [HT.sIx_none, show HT.sIx xs.length 0 (some (n : Int)) = min n xs.length from HT.sIx_nat xs.length 0 n]
  by_cases h : n ≤ xs.length
  · rw [Nat.min_eq_left h]
    exact List.take_of_length_le (by rw [List.length_drop]; omega)
  · rw [Nat.min_eq_right (by omega), List.drop_of_length_le (Nat.le_refl _), List.drop_of_length_le (by omega)]
    simp
/-- an if's way out: what follows is shown once -/
theorem a_forNLm {xs : List V} {tl : TE} {j : Nat} (e : Ex G H) (h : EvL tl σ G xs) (Pv : Addr → Nat → L2.St → Hp → Prop) (h0 : ∀ p H1, G p = none → Ex (upd G p (.lst xs)) H1 → Pv p 0 σ H1) (hl : ∀ p i σ' H', i ≤ xs.length → Pv p i σ' H' → SqL K H' p xs)
    (hs : ∀ p i x σ' H', xs[i]? = some x → Pv p i σ' H' → tu { D with nx := Pv p (i + 1), ct := Pv p (i + 1), bk := tz D } (σ'.set j (some x)) H') (hd : ∀ p σ' H', Pv p xs.length σ' H' → tz D σ' H') : tSeq (tFor (iList K tl) (gName j) tu) tz D σ H :=
  a_forNL e h Pv h0 hl hs hd
end
end GR
namespace GR
open PySem PySem.Spec PyProof.Rows L2 Evl
section
variable {K : PySem.W.Frag} {σ : L2.St} {G H H' : Hp} {ta tb tc te tx : TE} {t u : TT} {x y z v : V} {D : Ends} {tu tw tz : TS} {g : TG}
/-- a value of which P holds, the heap but grown -/
def EvW (te : TE) (σ : L2.St) (G : Hp) (P : V → Prop) : Prop := ∀ H1, Ex G H1 → ∀ Q : VK, (∀ v H2, P v → Ex H1 H2 → Q v H2) → te σ H1 Q
theorem a_setV {i : Nat} {P : V → Prop} (e : Ex G H) (h : EvW te σ G P) (k : ∀ v H1, P v → Ex G H1 → tz D (σ.set i (some v)) H1) : tSeq (tAsg te (gName i)) tz D σ H :=
  h H e _ fun v H1 hP e1 => k v H1 hP (e.trans e1)
theorem ew_call {sp : Sp} {vs : List V} {E : XK} {ta : TA} {P : V → Prop} (h : EvA ta σ G vs) (hs : ∀ H1, Ex G H1 → ∀ Q : VK, (∀ v H2, P v → Ex H1 H2 → Q v H2) → ∀ E, sp vs H1 Q E) : EvW (tCall sp [] E ta) σ G P := fun H1 e Q q =>
  h H1 e _ fun H2 e2 => by
    rw [List.append_nil]
    exact hs H2 (e.trans e2) Q (fun v H3 hP e3 => q v H3 hP (e2.trans e3)) E
theorem eu_call {sp : Sp} {vs xs : List V} {E : XK} {ta : TA} (h : EvA ta σ G vs) (hs : ∀ H1, Ex G H1 → ∀ Q : VK, (∀ p H2, H1 p = none → Ex H1 H2 → H2 p = some (.tup xs) → Q (.ref p) H2) → ∀ E, sp vs H1 Q E) : EvU (tCall sp [] E ta) σ G xs := fun H1 e Q q =>
  h H1 e _ fun H2 e2 => by
    rw [List.append_nil]
    exact hs H2 (e.trans e2) Q (fun p H3 hp e3 h3 => q p H3 (fresh_back e2 hp) (e2.trans e3) h3) E
theorem en_call {sp : Sp} {vs : List V} {E : XK} {ta : TA} {P : List V → Prop} (h : EvA ta σ G vs) (hs : ∀ H1, Ex G H1 → ∀ Q : VK, (∀ xs p H2, P xs → H1 p = none → Ex H1 H2 → H2 p = some (.lst xs) → Q (.ref p) H2) → ∀ E, sp vs H1 Q E) : EvN (tCall sp [] E ta) σ G P := fun H1 e Q q =>
  h H1 e _ fun H2 e2 => by
    rw [List.append_nil]
    exact hs H2 (e.trans e2) Q (fun xs p H3 hP hp e3 h3 => q xs p H3 hP (fresh_back e2 hp) (e2.trans e3) h3) E
end
end GR

namespace GR
open PySem PySem.Spec PyProof.Rows L2 Evl
def top (i : Nat) : Stmt := PySem.Challenge.pw_gatesread_k02_gate_value.main.body.getD i (.Pass ⟨0, 0, 0, 0⟩)
abbrev s_input_counts : Stmt := top 2
abbrev s_gate_value : Stmt := top 3
abbrev s_mux_value : Stmt := top 4
abbrev s_law_parts : Stmt := top 6
abbrev s_law_value : Stmt := top 7
abbrev s_law_bits : Stmt := top 8
abbrev s_law_is_integer : Stmt := top 9
abbrev s_law_counts : Stmt := top 10
abbrev s_law_right_counts : Stmt := top 11
abbrev s_law : Stmt := top 12
theorem sc_input_counts : FnScope ["kind"] ["kind"] (defScope s_input_counts) := ⟨rfl, rfl, rfl, by decide +kernel, rfl, by decide +kernel, by decide +kernel⟩
theorem sc_gate_value : FnScope ["kind", "values"] ["kind", "values"] (defScope s_gate_value) := ⟨rfl, rfl, rfl, by decide +kernel, rfl, by decide +kernel, by decide +kernel⟩
theorem sc_mux_value : FnScope ["s", "a", "b"] ["s", "a", "b"] (defScope s_mux_value) := ⟨rfl, rfl, rfl, by decide +kernel, rfl, by decide +kernel, by decide +kernel⟩
theorem sc_law_parts : FnScope ["cell", "sizes", "parts", "rest", "k", "mixed"] ["cell", "sizes"] (defScope s_law_parts) := ⟨rfl, rfl, rfl, by decide +kernel, rfl, by decide +kernel, by decide +kernel⟩
theorem sc_law_value : FnScope ["kind", "bits", "ones"] ["kind", "bits"] (defScope s_law_value) := ⟨rfl, rfl, rfl, by decide +kernel, rfl, by decide +kernel, by decide +kernel⟩
theorem sc_law_bits : FnScope ["number", "count", "bits", "k"] ["number", "count"] (defScope s_law_bits) := ⟨rfl, rfl, rfl, by decide +kernel, rfl, by decide +kernel, by decide +kernel⟩
theorem sc_law_is_integer : FnScope ["actual"] ["actual"] (defScope s_law_is_integer) := ⟨rfl, rfl, rfl, by decide +kernel, rfl, by decide +kernel, by decide +kernel⟩
theorem sc_law_counts : FnScope ["kind"] ["kind"] (defScope s_law_counts) := ⟨rfl, rfl, rfl, by decide +kernel, rfl, by decide +kernel, by decide +kernel⟩
theorem sc_law_right_counts : FnScope ["kind", "actual", "expected"] ["kind"] (defScope s_law_right_counts) := ⟨rfl, rfl, rfl, by decide +kernel, rfl, by decide +kernel, by decide +kernel⟩
theorem sc_law : FnScope ["script", "kinds", "cell", "parts", "kind", "counts", "bits", "passed", "actual"] ["script"] (defScope s_law) := ⟨rfl, rfl, rfl, by decide +kernel, rfl, by decide +kernel, by decide +kernel⟩
structure A where
  f_input_counts : Addr
  d_input_counts : FuncData
  f_gate_value : Addr
  d_gate_value : FuncData
  f_mux_value : Addr
  d_mux_value : FuncData
  f_law_parts : Addr
  d_law_parts : FuncData
  f_law_value : Addr
  d_law_value : FuncData
  f_law_bits : Addr
  d_law_bits : FuncData
  f_law_is_integer : Addr
  d_law_is_integer : FuncData
  f_law_counts : Addr
  d_law_counts : FuncData
  f_law_right_counts : Addr
  d_law_right_counts : FuncData
  f_law : Addr
  d_law : FuncData
  v_INPUT_COUNTS : Addr
  q_INPUT_COUNTS_0 : Addr
  q_INPUT_COUNTS_1 : Addr
  q_INPUT_COUNTS_2 : Addr
  q_INPUT_COUNTS_3 : Addr
  q_INPUT_COUNTS_4 : Addr
  q_INPUT_COUNTS_5 : Addr
  q_INPUT_COUNTS_6 : Addr
  q_INPUT_COUNTS_7 : Addr
  q_INPUT_COUNTS_8 : Addr
  q_INPUT_COUNTS_9 : Addr
structure Top (K : PySem.W.Frag) (mg : Str → Option Value) (w : World) (a : A) : Prop where
  F_input_counts : Fun K "input_counts" "input_counts" s_input_counts a.f_input_counts a.d_input_counts
  b_input_counts : Binds K a.d_input_counts ["kind"] []
  g_input_counts : mg "input_counts" = some (.ref a.f_input_counts)
  F_gate_value : Fun K "gate_value" "gate_value" s_gate_value a.f_gate_value a.d_gate_value
  b_gate_value : Binds K a.d_gate_value ["kind", "values"] []
  g_gate_value : mg "gate_value" = some (.ref a.f_gate_value)
  F_mux_value : Fun K "mux_value" "mux_value" s_mux_value a.f_mux_value a.d_mux_value
  b_mux_value : Binds K a.d_mux_value ["s", "a", "b"] []
  g_mux_value : mg "mux_value" = some (.ref a.f_mux_value)
  F_law_parts : Fun K "_law_parts" "_law_parts" s_law_parts a.f_law_parts a.d_law_parts
  b_law_parts : Binds K a.d_law_parts ["cell", "sizes"] []
  g_law_parts : mg "_law_parts" = some (.ref a.f_law_parts)
  F_law_value : Fun K "_law_value" "_law_value" s_law_value a.f_law_value a.d_law_value
  b_law_value : Binds K a.d_law_value ["kind", "bits"] []
  g_law_value : mg "_law_value" = some (.ref a.f_law_value)
  F_law_bits : Fun K "_law_bits" "_law_bits" s_law_bits a.f_law_bits a.d_law_bits
  b_law_bits : Binds K a.d_law_bits ["number", "count"] []
  g_law_bits : mg "_law_bits" = some (.ref a.f_law_bits)
  F_law_is_integer : Fun K "_law_is_integer" "_law_is_integer" s_law_is_integer a.f_law_is_integer a.d_law_is_integer
  b_law_is_integer : Binds K a.d_law_is_integer ["actual"] []
  g_law_is_integer : mg "_law_is_integer" = some (.ref a.f_law_is_integer)
  F_law_counts : Fun K "_law_counts" "_law_counts" s_law_counts a.f_law_counts a.d_law_counts
  b_law_counts : Binds K a.d_law_counts ["kind"] []
  g_law_counts : mg "_law_counts" = some (.ref a.f_law_counts)
  F_law_right_counts : Fun K "_law_right_counts" "_law_right_counts" s_law_right_counts a.f_law_right_counts a.d_law_right_counts
  b_law_right_counts : Binds K a.d_law_right_counts ["kind"] []
  g_law_right_counts : mg "_law_right_counts" = some (.ref a.f_law_right_counts)
  F_law : Fun K "law" "law" s_law a.f_law a.d_law
  b_law : Binds K a.d_law ["script"] []
  g_law : mg "law" = some (.ref a.f_law)
  z_bool : mg "bool" = none
  z_int : mg "int" = none
  z_isinstance : mg "isinstance" = none
  z_len : mg "len" = none
  z_list : mg "list" = none
  z_max : mg "max" = none
  z_min : mg "min" = none
  z_range : mg "range" = none
  z_sum : mg "sum" = none
  z_tuple : mg "tuple" = none
  c_INPUT_COUNTS : mg "INPUT_COUNTS" = some (.ref a.v_INPUT_COUNTS)
  e_INPUT_COUNTS_0 : KDct K w a.v_INPUT_COUNTS "not" (.ref a.q_INPUT_COUNTS_0)
  s_INPUT_COUNTS_0 : ∀ H, SqT K H a.q_INPUT_COUNTS_0 [.int 1, .int 1]
  e_INPUT_COUNTS_1 : KDct K w a.v_INPUT_COUNTS "and" (.ref a.q_INPUT_COUNTS_1)
  s_INPUT_COUNTS_1 : ∀ H, SqT K H a.q_INPUT_COUNTS_1 [.int 2, .int 3]
  e_INPUT_COUNTS_2 : KDct K w a.v_INPUT_COUNTS "or" (.ref a.q_INPUT_COUNTS_2)
  s_INPUT_COUNTS_2 : ∀ H, SqT K H a.q_INPUT_COUNTS_2 [.int 2, .int 3]
  e_INPUT_COUNTS_3 : KDct K w a.v_INPUT_COUNTS "nand" (.ref a.q_INPUT_COUNTS_3)
  s_INPUT_COUNTS_3 : ∀ H, SqT K H a.q_INPUT_COUNTS_3 [.int 2, .int 3]
  e_INPUT_COUNTS_4 : KDct K w a.v_INPUT_COUNTS "nor" (.ref a.q_INPUT_COUNTS_4)
  s_INPUT_COUNTS_4 : ∀ H, SqT K H a.q_INPUT_COUNTS_4 [.int 2, .int 3]
  e_INPUT_COUNTS_5 : KDct K w a.v_INPUT_COUNTS "xor" (.ref a.q_INPUT_COUNTS_5)
  s_INPUT_COUNTS_5 : ∀ H, SqT K H a.q_INPUT_COUNTS_5 [.int 2, .int 2]
  e_INPUT_COUNTS_6 : KDct K w a.v_INPUT_COUNTS "mux" (.ref a.q_INPUT_COUNTS_6)
  s_INPUT_COUNTS_6 : ∀ H, SqT K H a.q_INPUT_COUNTS_6 [.int 3, .int 3]
  e_INPUT_COUNTS_7 : KDct K w a.v_INPUT_COUNTS "zero" (.ref a.q_INPUT_COUNTS_7)
  s_INPUT_COUNTS_7 : ∀ H, SqT K H a.q_INPUT_COUNTS_7 [.int 0, .int 0]
  e_INPUT_COUNTS_8 : KDct K w a.v_INPUT_COUNTS "one" (.ref a.q_INPUT_COUNTS_8)
  s_INPUT_COUNTS_8 : ∀ H, SqT K H a.q_INPUT_COUNTS_8 [.int 0, .int 0]
  e_INPUT_COUNTS_9 : KDct K w a.v_INPUT_COUNTS "latch" (.ref a.q_INPUT_COUNTS_9)
  s_INPUT_COUNTS_9 : ∀ H, SqT K H a.q_INPUT_COUNTS_9 [.int 1, .int 1]
section
variable {P : Program} {w : World} {K : PySem.W.Frag} {mg : Str → Option Value} {base : Heap} {a : A}
/-! ### evaluation by the reading's head -/
local macro_rules | `(tactic| walk_at "sq") => `(tactic| first
  | assumption
  | exact sq_of upd_same | exact st_of upd_same
  | exact sq_of (by assumption) | exact st_of (by assumption)
  | exact ex_l (Ex.new (by assumption)) (by assumption) | exact ex_t (Ex.new (by assumption)) (by assumption)
  | exact ex_l (by assumption) (by assumption) | exact ex_t (by assumption) (by assumption))
local macro_rules | `(tactic| walk_at "rv") => `(tactic| first
  | exact rv_I0
  | exact rv_eq rfl | exact rv_ne rfl
  | exact rv_ixL (by walk_at "sq") (by first | assumption | rfl)
  | exact rv_ixT (by walk_at "sq") (by first | assumption | rfl)
  | exact rv_I (by first | assumption | decide | omega | exact ⟨by decide, by decide, by decide⟩ | exact .inl ⟨by omega, by omega⟩ | exact .inr ⟨by omega, by omega⟩))
local macro_rules | `(tactic| walk_at "ev") => `(tactic| first
  | exact ev_var rfl
  | exact ev_c
  | exact ea_nil
  | (apply ea_cons; (walk_at "ev"); (walk_at "ev"))
  | (apply ev_op; (walk_at "ev"); (walk_at "ev"); (walk_at "rv"))
  | (apply ev_un; (walk_at "ev"); exact ru_neg)
  | (apply ev_int1; (walk_at "ev"))
  | (apply ev_lenS; (walk_at "ev"); (walk_at "sq"))
  | (apply ev_lenT; (walk_at "ev"); (walk_at "sq"))
  | (apply et_test; (walk_at "ev"))
  | (apply et_B; (walk_at "ev"))
  | (apply et_not; (walk_at "ev"))
  | (apply ev_notV; (walk_at "ev"))
  | (apply el_lst; (walk_at "ev"); decide)
  | (apply eu_tup; (walk_at "ev"); decide))

/-! ### _law_parts -/
def sp_law_parts (K : PySem.W.Frag) : Sp := fun vs H Q _ => ∃ (c : Int) (l : Addr) (sizes : List Int), vs = [.int c, .ref l] ∧ SqL K H l (sizes.map V.int) ∧ sizes.length ≤ 1000 ∧ (∀ s ∈ sizes, 0 < s ∧ s ≤ 1000000000) ∧ ∀ ns, Draw ns sizes → RetL (ns.map V.int) H Q
theorem draw_step {ns sizes : List Int} {i : Nat} {x : Int} (hl : ns.length = i) (h : ∀ k, k < i → 0 ≤ ns.getD k 0 ∧ ns.getD k 0 < sizes.getD k 0) (h0 : 0 ≤ x) (h1 : x < sizes.getD i 0) :
    (ns ++ [x]).length = i + 1 ∧ ∀ k, k < i + 1 → 0 ≤ (ns ++ [x]).getD k 0 ∧ (ns ++ [x]).getD k 0 < sizes.getD k 0 := by
  refine ⟨by rw [List.length_append, hl]; rfl, fun k hk => ?_⟩
  by_cases q : k < i
  · have e : (ns ++ [x]).getD k 0 = ns.getD k 0 := by
      rw [List.getD_eq_getElem?_getD, List.getElem?_append_left (by omega), ← List.getD_eq_getElem?_getD]
    rw [e]
    exact h k q
  · have e2 : k = i := by omega
    subst e2
    have e : (ns ++ [x]).getD k 0 = x := by
      rw [List.getD_eq_getElem?_getD, List.getElem?_append_right (by omega), hl, Nat.sub_self]
      rfl
    rw [e]
    exact ⟨h0, h1⟩
theorem ok_law_parts (T : Top K mg w a) : FnOk P w K mg base CX0 1 a.f_law_parts a.d_law_parts ["cell", "sizes"] (sp_law_parts K) := by
  refine T.F_law_parts.ok sc_law_parts (fun vs H Q E h => ?_) (fun cdv A outer s H vs Q E hr h => ?_)
  · obtain ⟨c, l, sizes, rfl, _⟩ := h
    rfl
  · obtain ⟨c, l, sizes, rfl, hS, hlen, hpos, q⟩ := h
    refine ⟨_, (pss_cons (ps_set (i := 2) sc_law_parts.nd rfl (Or.inl rfl) (pe_lst pa_nil))
      (pss_cons (ps_set (i := 3) sc_law_parts.nd rfl (Or.inl rfl) (pe_op op_sub (pv 0) (pe_op op_pow pe_int pe_int)))
      (pss_cons (ps_for PassesOwn.never rfl (pi_range1 rfl T.z_range (pa_cons (pe_callB call_len_seq (by rfl) T.z_len (by decide +kernel) (pa_cons (pv 1) pa_nil)) pa_nil)) (pg_name (i := 4) sc_law_parts.nd rfl (Or.inl rfl))
      (pss_one (ps_if (pt_cmpR op_ge (pv 3) pe_int (nomark _))
      (pss_cons (ps_expr (pe_bm PySem.F.plainAttrs_list PySem.F.slot_list_append PySem.F.type_list_append mt_append (pv 2) (pa_cons (pe_op op_mod (pe_callTy call_int1 (by rfl) T.z_int (by decide +kernel) (pa_cons (pv 3) pa_nil)) (pe_ix ix_list (pv 1) (pv 4) (fun _ _ => rfl))) pa_nil)))
      (pss_one (ps_set (i := 3) sc_law_parts.nd rfl (Or.inl rfl) (pe_op op_fdivW (pv 3) (pe_ix ix_list (pv 1) (pv 4) (fun _ _ => rfl))))))
      (pss_cons (ps_set (i := 5) sc_law_parts.nd rfl (Or.inl rfl) (pe_op op_mod (pe_callTy call_int1 (by rfl) T.z_int (by decide +kernel) (pa_cons (pe_op op_add (pe_op op_add (pe_op op_mul (pv 0) pe_int) (pe_op op_mul (pv 4) pe_int)) pe_int) pa_nil)) pe_int))
      (pss_cons (ps_set (i := 5) sc_law_parts.nd rfl (Or.inl rfl) (pe_op op_mod (pe_callTy call_int1 (by rfl) T.z_int (by decide +kernel) (pa_cons (pe_op op_add (pe_op op_add (pe_op op_mul (pv 5) (pv 5)) (pe_op op_mul pe_int (pv 4))) pe_int) pa_nil)) pe_int))
      (pss_one (ps_expr (pe_bm PySem.F.plainAttrs_list PySem.F.slot_list_append PySem.F.type_list_append mt_append (pv 2) (pa_cons (pe_op op_mod (pe_callTy call_int1 (by rfl) T.z_int (by decide +kernel) (pa_cons (pv 5) pa_nil)) (pe_ix ix_list (pv 1) (pv 4) (fun _ _ => rfl))) pa_nil)))))))))
      (pss_one (ps_ret (pv 2)))))), ?_⟩
    refine a_setL (Ex.refl H) (by walk_at "ev") (fun p H1 hp e1 => ?_)
    refine a_set e1 (by walk_at "ev") (fun H2 e2 => ?_)
    refine a_forR (n := (sizes.length : Int)) e2 (ea_cons (ev_is (ev_lenS (ev_var rfl) (ex_l (Ex.new hp) hS)) (by rw [List.length_map])) ea_nil) ⟨by omega, by omega⟩
      (fun i σ' H' => ∃ (rest : Int) (y m : Option V) (ns : List Int), σ' = [some (.int c), some (.ref l), some (.ref p), some (.int rest), y, m] ∧ ns.length = i ∧ (∀ k, k < i → 0 ≤ ns.getD k 0 ∧ ns.getD k 0 < sizes.getD k 0) ∧ Ex (upd H p (.lst (ns.map V.int))) H')
      (fun H3 e3 => ⟨_, _, _, [], rfl, rfl, fun k hk => absurd hk (Nat.not_lt_zero k), e3⟩) ?_ ?_
    · rintro i σ' H' hi ⟨rest, y, m, ns, rfl, hl, hd, e3⟩
      have hil : i < sizes.length := by omega
      have hsz : 0 < sizes.getD i 0 ∧ sizes.getD i 0 ≤ 1000000000 := by
        refine hpos _ ?_
        rw [List.getD_eq_getElem?_getD, List.getElem?_eq_getElem hil]
        exact List.getElem_mem hil
      have hSi : SqL K (upd H p (.lst (ns.map V.int))) l (sizes.map V.int) := ex_l (Ex.new hp) hS
      have hz : (ns.map V.int).length < 100000 := by rw [List.length_map, hl]; omega
      refine a_if e3 (et_test (ev_op (ev_var rfl) ev_c rv_I0)) (fun hb H4 e4 => ?_) (fun hb H4 e4 => ?_)
      · refine a_app (v := .int (rest % sizes.getD i 0)) e4 (ev_var rfl) upd_same (ev_op (ev_int1 (ev_var rfl)) (ev_op (ev_var rfl) (ev_var rfl) (rv_ixL hSi (at_map hil))) (rv_I hsz.1)) hz (fun H5 e5 => ?_)
        rw [upd_upd] at e5
        refine a_set1 e5 (ev_op (ev_var rfl) (ev_op (ev_var rfl) (ev_var rfl) (rv_ixL (ex_l (Ex.new hp) hS) (at_map hil))) (rv_I (wide_div (b := 64) hsz.1 (by omega) (by decide) (by decide)))) (fun H6 e6 => ?_)
        obtain ⟨g1, g2⟩ := draw_step hl hd (Int.emod_nonneg rest (by omega)) (Int.emod_lt_of_pos rest hsz.1)
        refine ⟨_, _, _, ns ++ [rest % sizes.getD i 0], rfl, g1, g2, ?_⟩
        rw [List.map_append]
        exact e6
      · refine a_set (v := .int ((c * 48271 + (i : Int) * 69621 + 11) % 2147483647)) e4 (ev_op (ev_int1 (ev_op (ev_op (ev_op (ev_var rfl) ev_c (rv_I (.inr ⟨by decide, by decide⟩))) (ev_op (ev_var rfl) ev_c (rv_I (.inr ⟨by decide, by decide⟩))) rv_I0) ev_c rv_I0)) ev_c (rv_I (by decide))) (fun H5 e5 => ?_)
        have m1 : 0 ≤ (c * 48271 + (i : Int) * 69621 + 11) % 2147483647 := Int.emod_nonneg _ (by decide)
        have m2 : (c * 48271 + (i : Int) * 69621 + 11) % 2147483647 < 2147483647 := Int.emod_lt_of_pos _ (by decide)
        generalize (c * 48271 + (i : Int) * 69621 + 11) % 2147483647 = mx at m1 m2 ⊢
        refine a_set (v := .int ((mx * mx + 16807 * (i : Int) + 5) % 998244353)) e5 (ev_op (ev_int1 (ev_op (ev_op (ev_op (ev_var rfl) (ev_var rfl) (rv_I (.inl ⟨by omega, by omega⟩))) (ev_op ev_c (ev_var rfl) (rv_I (.inl ⟨by decide, by decide⟩))) rv_I0) ev_c rv_I0)) ev_c (rv_I (by decide))) (fun H6 e6 => ?_)
        generalize (mx * mx + 16807 * (i : Int) + 5) % 998244353 = my
        refine a_app1 (v := .int (my % sizes.getD i 0)) e6 (ev_var rfl) upd_same (ev_op (ev_int1 (ev_var rfl)) (ev_op (ev_var rfl) (ev_var rfl) (rv_ixL hSi (at_map hil))) (rv_I hsz.1)) hz (fun H7 e7 => ?_)
        rw [upd_upd] at e7
        obtain ⟨g1, g2⟩ := draw_step hl hd (Int.emod_nonneg my (by omega)) (Int.emod_lt_of_pos my hsz.1)
        refine ⟨_, _, _, ns ++ [my % sizes.getD i 0], rfl, g1, g2, ?_⟩
        rw [List.map_append]
        exact e7
    · rintro σ' H' ⟨rest, y, m, ns, rfl, hl, hd, e3⟩
      have en : ns.length = sizes.length := by rw [hl]; exact Int.toNat_natCast _
      refine a_ret e3 (ev_var rfl) (fun H4 e4 => ?_)
      exact q ns ⟨en, fun k hk => hd k (by omega)⟩ p H4 hp (fun b o z => e4 b o ((Ex.new hp) b o z)) (e4 p _ upd_same)

def sp_law_is_integer (K : PySem.W.Frag) : Sp := fun vs H Q _ => ∃ (i : Int), vs = [.int i] ∧ RetV (.bl true) H Q
theorem ok_law_is_integer (T : Top K mg w a) : FnOk P w K mg base CX0 1 a.f_law_is_integer a.d_law_is_integer ["actual"] (sp_law_is_integer K) := by
  refine T.F_law_is_integer.ok sc_law_is_integer (fun vs H Q E h => ?_) (fun cdv A outer s H vs Q E hr h => ?_)
  · obtain ⟨i, rfl, _⟩ := h
    rfl
  · obtain ⟨i, rfl, q⟩ := h
    refine ⟨_, (pss_one (ps_ret (pe_and (pe_callB call_isi (by rfl) T.z_isinstance (by decide +kernel) (pa_cons (pv 0) (pa_cons (pe_bltn (v := .ty "int") (by rfl) T.z_int (by decide +kernel) rfl) pa_nil))) (pe_one (pe_not (pe_callB call_isi (by rfl) T.z_isinstance (by decide +kernel) (pa_cons (pv 0) (pa_cons (pe_bltn (v := .ty "bool") (by rfl) T.z_bool (by decide +kernel) rfl) pa_nil)))))))), ?_⟩
    exact a_ret (Ex.refl H) (ev_andV (ev_isiInt (ev_var rfl)) fun _ => ev_notV (ev_isiIntB (ev_var rfl))) q

/-! ### gates -/
def Bits (bs : List Int) : Prop := ∀ b ∈ bs, b = 0 ∨ b = 1
def bmin (bs : List Int) : Int := if (0 : Int) ∈ bs then 0 else 1
def bmax (bs : List Int) : Int := if (1 : Int) ∈ bs then 1 else 0
theorem bmin_mem {bs : List Int} (h : Bits bs) (h0 : bs ≠ []) : bmin bs ∈ bs ∧ ∀ y ∈ bs, bmin bs ≤ y := by
  unfold bmin
  by_cases q : (0 : Int) ∈ bs
  · rw [if_pos q]
    refine ⟨q, fun y hy => ?_⟩
    rcases h y hy with e | e <;> omega
  · rw [if_neg q]
    have a : ∀ y ∈ bs, y = 1 := fun y hy => by
      rcases h y hy with e | e
      · rw [e] at hy
        exact absurd hy q
      · exact e
    refine ⟨?_, fun y hy => by rw [a y hy]; omega⟩
    cases bs with
    | nil => exact absurd rfl h0
    | cons x r => rw [← a x List.mem_cons_self]; exact List.mem_cons_self
theorem bmax_mem {bs : List Int} (h : Bits bs) (h0 : bs ≠ []) : bmax bs ∈ bs ∧ ∀ y ∈ bs, y ≤ bmax bs := by
  unfold bmax
  by_cases q : (1 : Int) ∈ bs
  · rw [if_pos q]
    refine ⟨q, fun y hy => ?_⟩
    rcases h y hy with e | e <;> omega
  · rw [if_neg q]
    have a : ∀ y ∈ bs, y = 0 := fun y hy => by
      rcases h y hy with e | e
      · exact e
      · rw [e] at hy
        exact absurd hy q
    refine ⟨?_, fun y hy => by rw [a y hy]; omega⟩
    cases bs with
    | nil => exact absurd rfl h0
    | cons x r => rw [← a x List.mem_cons_self]; exact List.mem_cons_self
theorem bits_sum {bs : List Int} (h : Bits bs) : 0 ≤ bs.sum ∧ bs.sum ≤ bs.length ∧ ((1 : Int) ∈ bs ↔ bs.sum ≠ 0) ∧ ((0 : Int) ∈ bs ↔ bs.sum < bs.length) := by
  induction bs with
  | nil => simp
  | cons b r ih =>
    obtain ⟨i1, i2, i3, i4⟩ := ih fun x hx => h x (List.mem_cons_of_mem _ hx)
    rw [List.sum_cons, List.length_cons, List.mem_cons, List.mem_cons, i3, i4]
    rcases h b List.mem_cons_self with e | e <;> subst e <;> refine ⟨by omega, by omega, ?_, ?_⟩ <;> omega
theorem bmin_sum {bs : List Int} (h : Bits bs) : bmin bs = if bs.sum = (bs.length : Int) then 1 else 0 := by
  obtain ⟨a, b, c, d⟩ := bits_sum h
  unfold bmin
  by_cases q : (0 : Int) ∈ bs
  · rw [if_pos q, if_neg (by have := d.mp q; omega)]
  · rw [if_neg q, if_pos (by have : ¬ bs.sum < bs.length := fun z => q (d.mpr z); omega)]
theorem bmax_sum {bs : List Int} (h : Bits bs) : bmax bs = if 0 < bs.sum then 1 else 0 := by
  obtain ⟨a, b, c, d⟩ := bits_sum h
  unfold bmax
  by_cases q : (1 : Int) ∈ bs
  · rw [if_pos q, if_pos (by have := c.mp q; omega)]
  · rw [if_neg q, if_neg (fun z => q (c.mpr (by omega)))]
theorem dec_str {a b : Str} : decide (V.str a = V.str b) = decide (a = b) := by
  by_cases h : a = b
  · rw [h]; simp
  · rw [decide_eq_false h]
    exact decide_eq_false fun q => h (V.str.inj q)
theorem decI {i j : Int} (h : i = j) : decide (V.int i = V.int j) = true := by rw [h]; simp
theorem dec_int {a b : Int} : decide (V.int a = V.int b) = decide (a = b) := by
  by_cases h : a = b
  · rw [h]; simp
  · rw [decide_eq_false h]
    exact decide_eq_false fun q => h (V.int.inj q)
theorem dec_bl {a b : Bool} : decide (V.bl a = V.bl b) = decide (a = b) := by cases a <;> cases b <;> simp
theorem ite_dec {p : Prop} [Decidable p] : (if decide p then (1 : Int) else 0) = if p then 1 else 0 := by
  by_cases h : p <;> simp [h]
/-- how many inputs a kind of gate may have -/
inductive GK : Str → Nat → Prop
  | zero : GK "zero" 0
  | one : GK "one" 0
  | not : GK "not" 1
  | and2 : GK "and" 2
  | and3 : GK "and" 3
  | or2 : GK "or" 2
  | or3 : GK "or" 3
  | nand2 : GK "nand" 2
  | nand3 : GK "nand" 3
  | nor2 : GK "nor" 2
  | nor3 : GK "nor" 3
  | xor : GK "xor" 2
  | mux : GK "mux" 3
def gateV (k : Str) (bs : List Int) : Int :=
  if k = "zero" then 0 else if k = "one" then 1 else if k = "not" then 1 - bs.getD 0 0 else if k = "and" then bmin bs else if k = "or" then bmax bs
  else if k = "nand" then 1 - bmin bs else if k = "nor" then 1 - bmax bs else if k = "xor" then (if bs.getD 0 0 = bs.getD 1 0 then 0 else 1)
  else if bs.getD 0 0 = 0 then bs.getD 1 0 else bs.getD 2 0
theorem gk_pos {k : Str} {n : Nat} (h : GK k n) : k ≠ "zero" → k ≠ "one" → 0 < n := by
  cases h <;> intro a b <;> first | omega | exact absurd rfl a | exact absurd rfl b
theorem gk_xor {n : Nat} (h : GK "xor" n) : n = 2 := by
  generalize hk : ("xor" : Str) = k at h
  cases h <;> first | rfl | (exfalso; revert hk; decide +kernel)
theorem gk_not {n : Nat} (h : GK "not" n) : n = 1 := by
  generalize hk : ("not" : Str) = k at h
  cases h <;> first | rfl | (exfalso; revert hk; decide +kernel)
theorem gk_mux {k : Str} {n : Nat} (h : GK k n) : k ≠ "zero" → k ≠ "one" → k ≠ "not" → k ≠ "and" → k ≠ "or" → k ≠ "nand" → k ≠ "nor" → k ≠ "xor" → k = "mux" ∧ n = 3 := by
  cases h <;> intros <;> first | exact ⟨rfl, rfl⟩ | contradiction
theorem bits_at {bs : List Int} (h : Bits bs) {k : Nat} (hk : k < bs.length) : bs.getD k 0 = 0 ∨ bs.getD k 0 = 1 := by
  refine h _ ?_
  rw [List.getD_eq_getElem?_getD, List.getElem?_eq_getElem hk]
  exact List.getElem_mem hk
theorem gateV_bit {k : Str} {bs : List Int} (h : GK k bs.length) (hB : Bits bs) : gateV k bs = 0 ∨ gateV k bs = 1 := by
  unfold gateV
  have b1 : bmin bs = 0 ∨ bmin bs = 1 := by unfold bmin; split <;> simp
  have b2 : bmax bs = 0 ∨ bmax bs = 1 := by unfold bmax; split <;> simp
  split
  · exact .inl rfl
  split
  · exact .inr rfl
  split
  · subst k
    have := bits_at hB (k := 0) (by rw [gk_not h]; decide)
    omega
  split
  · exact b1
  split
  · exact b2
  split
  · omega
  split
  · omega
  split
  · split <;> simp
  · have e := (gk_mux h (by assumption) (by assumption) (by assumption) (by assumption) (by assumption) (by assumption) (by assumption) (by assumption)).2
    split
    · exact bits_at hB (by omega)
    · exact bits_at hB (by omega)
def sp_mux_value (K : PySem.W.Frag) : Sp := fun vs H Q _ => ∃ (s x y : Int), vs = [.int s, .int x, .int y] ∧ RetV (.int (if s = 0 then x else y)) H Q
theorem ok_mux_value (T : Top K mg w a) : FnOk P w K mg base CX0 1 a.f_mux_value a.d_mux_value ["s", "a", "b"] (sp_mux_value K) := by
  refine T.F_mux_value.ok sc_mux_value (fun vs H Q E h => ?_) (fun cdv A outer s H vs Q E hr h => ?_)
  · obtain ⟨s, x, y, rfl, _⟩ := h
    rfl
  · obtain ⟨s, x, y, rfl, q⟩ := h
    refine ⟨_, (pss_cons (ps_if (pt_cmpR op_eq (pv 0) pe_int (nomark _))
      (pss_one (ps_ret (pv 1)))
      pss_nil)
      (pss_one (ps_ret (pv 2)))), ?_⟩
    refine a_when (Ex.refl H) (et_test (ev_op (ev_var rfl) ev_c (rv_eq rfl))) (fun hb H1 e1 => ?_) (fun hb H1 e1 => ?_)
    · rw [dec_int] at hb
      rw [if_pos (of_decide_eq_true hb)] at q
      exact a_ret e1 (ev_var rfl) q
    · rw [dec_int] at hb
      rw [if_neg (of_decide_eq_false hb)] at q
      exact a_ret e1 (ev_var rfl) q
theorem xor_bits {x y : Int} (hx : x = 0 ∨ x = 1) (hy : y = 0 ∨ y = 1) : Builtin.bitXor x y = if x = y then 0 else 1 := by
  rcases hx with rfl | rfl <;> rcases hy with rfl | rfl <;> decide +kernel
def sp_gate_value (K : PySem.W.Frag) : Sp := fun vs H Q _ => ∃ (k : Str) (l : Addr) (bs : List Int), vs = [.str k, .ref l] ∧ SqL K H l (bs.map V.int) ∧ GK k bs.length ∧ Bits bs ∧ RetV (.int (gateV k bs)) H Q
theorem ok_gate_value (T : Top K mg w a) : FnOk P w K mg base CX0 2 a.f_gate_value a.d_gate_value ["kind", "values"] (sp_gate_value K) := by
  refine T.F_gate_value.ok sc_gate_value (fun vs H Q E h => ?_) (fun cdv A outer s H vs Q E hr h => ?_)
  · obtain ⟨k, l, bs, rfl, _⟩ := h
    rfl
  · obtain ⟨k, l, bs, rfl, hS, hk, hB, q⟩ := h
    refine ⟨_, (pss_cons (ps_if (pt_cmpR op_eq (pv 0) pe_str (nomark _))
      (pss_one (ps_ret pe_int))
      pss_nil)
      (pss_cons (ps_if (pt_cmpR op_eq (pv 0) pe_str (nomark _))
      (pss_one (ps_ret pe_int))
      pss_nil)
      (pss_cons (ps_if (pt_cmpR op_eq (pv 0) pe_str (nomark _))
      (pss_one (ps_ret (pe_op op_sub pe_int (pe_ix ix_list (pv 1) pe_int (fun _ _ => rfl)))))
      pss_nil)
      (pss_cons (ps_if (pt_cmpR op_eq (pv 0) pe_str (nomark _))
      (pss_one (ps_ret (pe_callB (cr_min rfl) (by rfl) T.z_min (by decide +kernel) (pa_cons (pv 1) pa_nil))))
      pss_nil)
      (pss_cons (ps_if (pt_cmpR op_eq (pv 0) pe_str (nomark _))
      (pss_one (ps_ret (pe_callB (cr_max rfl) (by rfl) T.z_max (by decide +kernel) (pa_cons (pv 1) pa_nil))))
      pss_nil)
      (pss_cons (ps_if (pt_cmpR op_eq (pv 0) pe_str (nomark _))
      (pss_one (ps_ret (pe_op op_sub pe_int (pe_callB (cr_min rfl) (by rfl) T.z_min (by decide +kernel) (pa_cons (pv 1) pa_nil)))))
      pss_nil)
      (pss_cons (ps_if (pt_cmpR op_eq (pv 0) pe_str (nomark _))
      (pss_one (ps_ret (pe_op op_sub pe_int (pe_callB (cr_max rfl) (by rfl) T.z_max (by decide +kernel) (pa_cons (pv 1) pa_nil)))))
      pss_nil)
      (pss_cons (ps_if (pt_cmpR op_eq (pv 0) pe_str (nomark _))
      (pss_one (ps_ret (pe_op op_xor (pe_ix ix_list (pv 1) pe_int (fun _ _ => rfl)) (pe_ix ix_list (pv 1) pe_int (fun _ _ => rfl)))))
      pss_nil)
      (pss_one (ps_ret (pe_call (ok_mux_value T) (hr.mono (by decide)) (by rfl) T.g_mux_value T.F_mux_value.kp T.b_mux_value .nil pass0 (pa_cons (pe_ix ix_list (pv 1) pe_int (fun _ _ => rfl)) (pa_cons (pe_ix ix_list (pv 1) pe_int (fun _ _ => rfl)) (pa_cons (pe_ix ix_list (pv 1) pe_int (fun _ _ => rfl)) pa_nil)))))))))))))), ?_⟩
    unfold gateV at q
    have at0 : ∀ k : Nat, k < bs.length → atI (bs.map V.int) (k : Int) = some (.int (bs.getD k 0)) := fun k h => at_map h
    refine a_when (Ex.refl H) (et_test (ev_op (ev_var rfl) ev_c (rv_eq rfl))) (fun hb H1 e1 => ?_) (fun hb H1 e1 => ?_)
    · rw [dec_str] at hb
      rw [if_pos (of_decide_eq_true hb)] at q
      exact a_ret e1 ev_c q
    rw [dec_str] at hb
    have n0 := of_decide_eq_false hb
    rw [if_neg n0] at q
    refine a_when e1 (et_test (ev_op (ev_var rfl) ev_c (rv_eq rfl))) (fun hb H1 e1 => ?_) (fun hb H1 e1 => ?_)
    · rw [dec_str] at hb
      rw [if_pos (of_decide_eq_true hb)] at q
      exact a_ret e1 ev_c q
    rw [dec_str] at hb
    have n1 := of_decide_eq_false hb
    rw [if_neg n1] at q
    have hpos := gk_pos hk n0 n1
    have hne : bs ≠ [] := fun z => by subst z; exact absurd hpos (Nat.lt_irrefl 0)
    refine a_when e1 (et_test (ev_op (ev_var rfl) ev_c (rv_eq rfl))) (fun hb H1 e1 => ?_) (fun hb H1 e1 => ?_)
    · rw [dec_str] at hb
      rw [if_pos (of_decide_eq_true hb)] at q
      exact a_ret e1 (ev_op ev_c (ev_op (ev_var rfl) ev_c (rv_ixL hS (at0 0 hpos))) rv_I0) q
    rw [dec_str] at hb
    have n2 := of_decide_eq_false hb
    rw [if_neg n2] at q
    refine a_when e1 (et_test (ev_op (ev_var rfl) ev_c (rv_eq rfl))) (fun hb H1 e1 => ?_) (fun hb H1 e1 => ?_)
    · rw [dec_str] at hb
      rw [if_pos (of_decide_eq_true hb)] at q
      exact a_ret e1 (ev_min (ev_var rfl) hS (bmin_mem hB hne).1 (bmin_mem hB hne).2) q
    rw [dec_str] at hb
    have n3 := of_decide_eq_false hb
    rw [if_neg n3] at q
    refine a_when e1 (et_test (ev_op (ev_var rfl) ev_c (rv_eq rfl))) (fun hb H1 e1 => ?_) (fun hb H1 e1 => ?_)
    · rw [dec_str] at hb
      rw [if_pos (of_decide_eq_true hb)] at q
      exact a_ret e1 (ev_max (ev_var rfl) hS (bmax_mem hB hne).1 (bmax_mem hB hne).2) q
    rw [dec_str] at hb
    have n4 := of_decide_eq_false hb
    rw [if_neg n4] at q
    refine a_when e1 (et_test (ev_op (ev_var rfl) ev_c (rv_eq rfl))) (fun hb H1 e1 => ?_) (fun hb H1 e1 => ?_)
    · rw [dec_str] at hb
      rw [if_pos (of_decide_eq_true hb)] at q
      exact a_ret e1 (ev_op ev_c (ev_min (ev_var rfl) hS (bmin_mem hB hne).1 (bmin_mem hB hne).2) rv_I0) q
    rw [dec_str] at hb
    have n5 := of_decide_eq_false hb
    rw [if_neg n5] at q
    refine a_when e1 (et_test (ev_op (ev_var rfl) ev_c (rv_eq rfl))) (fun hb H1 e1 => ?_) (fun hb H1 e1 => ?_)
    · rw [dec_str] at hb
      rw [if_pos (of_decide_eq_true hb)] at q
      exact a_ret e1 (ev_op ev_c (ev_max (ev_var rfl) hS (bmax_mem hB hne).1 (bmax_mem hB hne).2) rv_I0) q
    rw [dec_str] at hb
    have n6 := of_decide_eq_false hb
    rw [if_neg n6] at q
    refine a_when e1 (et_test (ev_op (ev_var rfl) ev_c (rv_eq rfl))) (fun hb H1 e1 => ?_) (fun hb H1 e1 => ?_)
    · rw [dec_str] at hb
      have ek := of_decide_eq_true hb
      rw [if_pos ek] at q
      subst ek
      have h2 := gk_xor hk
      have b0 := bits_at hB (k := 0) (by omega)
      have b1 := bits_at hB (k := 1) (by omega)
      rw [← xor_bits b0 b1] at q
      exact a_ret e1 (ev_op (ev_op (ev_var rfl) ev_c (rv_ixL hS (at0 0 (by omega)))) (ev_op (ev_var rfl) ev_c (rv_ixL hS (at0 1 (by omega)))) rv_I0) q
    rw [dec_str] at hb
    have n7 := of_decide_eq_false hb
    rw [if_neg n7] at q
    have h3 := (gk_mux hk n0 n1 n2 n3 n4 n5 n6 n7).2
    exact a_ret e1 (ev_call1 (ea_cons (ev_op (ev_var rfl) ev_c (rv_ixL hS (at0 0 (by omega)))) (ea_cons (ev_op (ev_var rfl) ev_c (rv_ixL hS (at0 1 (by omega)))) (ea_cons (ev_op (ev_var rfl) ev_c (rv_ixL hS (at0 2 (by omega)))) ea_nil))) fun H1 _ Q hq E => ⟨_, _, _, rfl, hq⟩) q

/-! ### _law_value -/
def sp_law_value (K : PySem.W.Frag) : Sp := fun vs H Q _ => ∃ (k : Str) (l : Addr) (bs : List Int), vs = [.str k, .ref l] ∧ SqL K H l (bs.map V.int) ∧ GK k bs.length ∧ Bits bs ∧ RetV (.int (gateV k bs)) H Q
theorem gateV_mux {bs : List Int} : gateV "mux" bs = if bs.getD 0 0 = 0 then bs.getD 1 0 else bs.getD 2 0 := by
  unfold gateV
  rw [if_neg (by decide +kernel), if_neg (by decide +kernel), if_neg (by decide +kernel), if_neg (by decide +kernel), if_neg (by decide +kernel), if_neg (by decide +kernel), if_neg (by decide +kernel), if_neg (by decide +kernel)]
theorem gateV_not {bs : List Int} : gateV "not" bs = 1 - bs.getD 0 0 := rfl
theorem gateV_xor {bs : List Int} : gateV "xor" bs = if bs.getD 0 0 = bs.getD 1 0 then 0 else 1 := by
  unfold gateV
  rw [if_neg (by decide +kernel), if_neg (by decide +kernel), if_neg (by decide +kernel), if_neg (by decide +kernel), if_neg (by decide +kernel), if_neg (by decide +kernel), if_neg (by decide +kernel), if_pos rfl]
theorem len1 {bs : List Int} (h : bs.length = 1) : ∃ x, bs = [x] := by
  match bs, h with
  | [x], _ => exact ⟨x, rfl⟩
theorem len2 {bs : List Int} (h : bs.length = 2) : ∃ x y, bs = [x, y] := by
  match bs, h with
  | [x, y], _ => exact ⟨x, y, rfl⟩
theorem gateV_last {k : Str} {bs : List Int} (h : GK k bs.length) (hB : Bits bs) (h0 : k ≠ "zero") (h1 : k ≠ "one") (h2 : k ≠ "mux") (h3 : k ≠ "not") (h4 : k ≠ "xor") (h5 : k ≠ "and") (h6 : k ≠ "nand") : (k = "or" ∧ gateV k bs = if 0 < bs.sum then 1 else 0) ∨ (k = "nor" ∧ gateV k bs = if 0 < bs.sum then 0 else 1) := by
  have e1 := bmax_sum hB
  generalize hn : bs.length = n at h
  cases h <;> first | contradiction | (refine .inl ⟨rfl, ?_⟩; show bmax bs = _; exact e1) | (refine .inr ⟨rfl, ?_⟩; show 1 - bmax bs = _; rw [e1]; split <;> rfl)
theorem ok_law_value (T : Top K mg w a) : FnOk P w K mg base CX0 1 a.f_law_value a.d_law_value ["kind", "bits"] (sp_law_value K) := by
  refine T.F_law_value.ok sc_law_value (fun vs H Q E h => ?_) (fun cdv A outer s H vs Q E hr h => ?_)
  · obtain ⟨k, l, bs, rfl, _⟩ := h
    rfl
  · obtain ⟨k, l, bs, rfl, hS, hk, hB, q⟩ := h
    refine ⟨_, (pss_cons (ps_set (i := 2) sc_law_value.nd rfl (Or.inl rfl) (pe_callB (cr_sum rfl) (by rfl) T.z_sum (by decide +kernel) (pa_cons (pv 1) pa_nil)))
      (pss_cons (ps_if (PW.pt (pw_or (pt_cmpR op_eq (pv 0) pe_str (nomark _)) (pw_or1 (pt_cmpR op_eq (pv 0) pe_str (nomark _)))))
      (pss_one (ps_ret (pe_callTy call_int1 (by rfl) T.z_int (by decide +kernel) (pa_cons (pe_cmpR op_eq (pv 0) pe_str (nomark _)) pa_nil))))
      pss_nil)
      (pss_cons (ps_if (pt_cmpR op_eq (pv 0) pe_str (nomark _))
      (pss_one (ps_ret (pe_ix ix_list (pv 1) (pe_op op_add pe_int (pe_ix ix_list (pv 1) pe_int (fun _ _ => rfl))) (fun _ _ => rfl))))
      pss_nil)
      (pss_cons (ps_if (pt_cmpR op_eq (pv 0) pe_str (nomark _))
      (pss_one (ps_ret (pe_op op_sub pe_int (pv 2))))
      pss_nil)
      (pss_cons (ps_if (pt_cmpR op_eq (pv 0) pe_str (nomark _))
      (pss_one (ps_ret (pe_callTy call_int1 (by rfl) T.z_int (by decide +kernel) (pa_cons (pe_cmpR op_eq (pv 2) pe_int (nomark _)) pa_nil))))
      pss_nil)
      (pss_cons (ps_if (PW.pt (pw_or (pt_cmpR op_eq (pv 0) pe_str (nomark _)) (pw_or1 (pt_cmpR op_eq (pv 0) pe_str (nomark _)))))
      (pss_one (ps_ret (pe_callTy call_int1 (by rfl) T.z_int (by decide +kernel) (pa_cons (pe_cmpR op_eq (pe_cmpR op_eq (pv 2) (pe_callB call_len_seq (by rfl) T.z_len (by decide +kernel) (pa_cons (pv 1) pa_nil)) (nomark _)) (pe_cmpR op_eq (pv 0) pe_str (nomark _)) (nomark _)) pa_nil))))
      pss_nil)
      (pss_one (ps_ret (pe_callTy call_int1 (by rfl) T.z_int (by decide +kernel) (pa_cons (pe_cmpR op_eq (pe_cmpR op_gt (pv 2) pe_int (nomark _)) (pe_cmpR op_eq (pv 0) pe_str (nomark _)) (nomark _)) pa_nil)))))))))), ?_⟩
    have at0 : ∀ k : Nat, k < bs.length → atI (bs.map V.int) (k : Int) = some (.int (bs.getD k 0)) := fun k h => at_map h
    refine a_set (Ex.refl H) (ev_sum (ev_var rfl) hS) (fun H1 e1 => ?_)
    refine a_when e1 (et_or (et_test (ev_op (ev_var rfl) ev_c (rv_eq rfl))) fun _ => et_test (ev_op (ev_var rfl) ev_c (rv_eq rfl))) (fun hb H1 e1 => ?_) (fun hb H1 e1 => ?_)
    · refine a_ret e1 (ev_is (ev_int1b (ev_op (ev_var rfl) ev_c (rv_eq rfl))) ?_) q
      rw [dec_str, dec_str] at hb
      rw [dec_str]
      by_cases k1 : k = "zero"
      · subst k1; rfl
      · have k2 : k = "one" := by simpa [k1] using hb
        subst k2; rfl
    rw [dec_str, dec_str] at hb
    obtain ⟨n0, n1⟩ : k ≠ "zero" ∧ k ≠ "one" := by simpa using hb
    have hpos := gk_pos hk n0 n1
    refine a_when e1 (et_test (ev_op (ev_var rfl) ev_c (rv_eq rfl))) (fun hb H1 e1 => ?_) (fun hb H1 e1 => ?_)
    · rw [dec_str] at hb
      have k1 := of_decide_eq_true hb
      subst k1
      have h3 : bs.length = 3 := by
        generalize hn : bs.length = n at hk
        generalize hkk : ("mux" : Str) = k at hk
        cases hk <;> first | rfl | (exfalso; revert hkk; decide +kernel)
      rw [gateV_mux] at q
      rcases bits_at hB (k := 0) (by omega) with b0 | b0
      · rw [if_pos b0] at q
        exact a_ret e1 (ev_op (ev_var rfl) (ev_op ev_c (ev_op (ev_var rfl) ev_c (rv_ixL hS (at0 0 (by omega)))) rv_I0) (rv_ixL hS (by rw [b0]; exact at0 1 (by omega)))) q
      · rw [if_neg (by omega)] at q
        exact a_ret e1 (ev_op (ev_var rfl) (ev_op ev_c (ev_op (ev_var rfl) ev_c (rv_ixL hS (at0 0 (by omega)))) rv_I0) (rv_ixL hS (by rw [b0]; exact at0 2 (by omega)))) q
    rw [dec_str] at hb
    have n2 := of_decide_eq_false hb
    refine a_when e1 (et_test (ev_op (ev_var rfl) ev_c (rv_eq rfl))) (fun hb H1 e1 => ?_) (fun hb H1 e1 => ?_)
    · rw [dec_str] at hb
      have k1 := of_decide_eq_true hb
      subst k1
      obtain ⟨x, rfl⟩ := len1 (gk_not hk)
      refine a_ret e1 (ev_is (ev_op ev_c (ev_var rfl) rv_I0) ?_) q
      rw [gateV_not]
      simp
    rw [dec_str] at hb
    have n3 := of_decide_eq_false hb
    refine a_when e1 (et_test (ev_op (ev_var rfl) ev_c (rv_eq rfl))) (fun hb H1 e1 => ?_) (fun hb H1 e1 => ?_)
    · rw [dec_str] at hb
      have k1 := of_decide_eq_true hb
      subst k1
      obtain ⟨x, y, rfl⟩ := len2 (gk_xor hk)
      refine a_ret e1 (ev_is (ev_int1b (ev_op (ev_var rfl) ev_c (rv_eq rfl))) ?_) q
      rw [gateV_xor, dec_int]
      have hx := hB x (by simp)
      have hy := hB y (by simp)
      rcases hx with rfl | rfl <;> rcases hy with rfl | rfl <;> decide +kernel
    rw [dec_str] at hb
    have n4 := of_decide_eq_false hb
    refine a_when e1 (et_or (et_test (ev_op (ev_var rfl) ev_c (rv_eq rfl))) fun _ => et_test (ev_op (ev_var rfl) ev_c (rv_eq rfl))) (fun hb H1 e1 => ?_) (fun hb H1 e1 => ?_)
    · rw [dec_str, dec_str] at hb
      refine a_ret e1 (ev_is (ev_int1b (ev_op (ev_op (ev_var rfl) (ev_lenS (ev_var rfl) hS) (rv_eq rfl)) (ev_op (ev_var rfl) ev_c (rv_eq rfl)) (rv_eq rfl))) ?_) q
      rw [dec_int, dec_str, dec_bl, List.length_map]
      have em := bmin_sum hB
      by_cases k1 : k = "and"
      · subst k1
        rw [show gateV "and" bs = bmin bs from rfl, em]
        by_cases hs : bs.sum = (bs.length : Int) <;> simp [hs]
      · have k2 : k = "nand" := by simpa [k1] using hb
        subst k2
        rw [show gateV "nand" bs = 1 - bmin bs from rfl, em]
        have e5 : decide (("nand" : Str) = "and") = false := by decide +kernel
        rw [e5]
        by_cases hs : bs.sum = (bs.length : Int) <;> simp [hs]
    rw [dec_str, dec_str] at hb
    obtain ⟨n5, n6⟩ : k ≠ "and" ∧ k ≠ "nand" := by simpa using hb
    refine a_ret e1 (ev_is (ev_int1b (ev_op (ev_op (ev_var rfl) ev_c rv_I0) (ev_op (ev_var rfl) ev_c (rv_eq rfl)) (rv_eq rfl))) ?_) q
    rw [dec_str, dec_bl]
    rcases gateV_last hk hB n0 n1 n2 n3 n4 n5 n6 with ⟨rfl, e⟩ | ⟨rfl, e⟩
    · rw [e]
      by_cases hs : 0 < bs.sum <;> simp [hs]
    · rw [e]
      have e5 : decide (("nor" : Str) = "or") = false := by decide +kernel
      rw [e5]
      by_cases hs : 0 < bs.sum <;> simp [hs]

/-! ### _law_bits: some bits -/
def sp_law_bits (K : PySem.W.Frag) : Sp := fun vs H Q _ => ∃ (n c : Int), vs = [.int n, .int c] ∧ 0 ≤ c ∧ c ≤ 1000 ∧ ∀ bs, Bits bs → bs.length = c.toNat → RetL (bs.map V.int) H Q
theorem ok_law_bits (T : Top K mg w a) : FnOk P w K mg base CX0 1 a.f_law_bits a.d_law_bits ["number", "count"] (sp_law_bits K) := by
  refine T.F_law_bits.ok sc_law_bits (fun vs H Q E h => ?_) (fun cdv A outer s H vs Q E hr h => ?_)
  · obtain ⟨n, c, rfl, _⟩ := h
    rfl
  · obtain ⟨n, c, rfl, hc0, hc1, q⟩ := h
    refine ⟨_, (pss_cons (ps_set (i := 2) sc_law_bits.nd rfl (Or.inl rfl) (pe_lst pa_nil))
      (pss_cons (ps_for PassesOwn.never rfl (pi_range1 rfl T.z_range (pa_cons (pv 1) pa_nil)) (pg_name (i := 3) sc_law_bits.nd rfl (Or.inl rfl))
      (pss_cons (ps_expr (pe_bm PySem.F.plainAttrs_list PySem.F.slot_list_append PySem.F.type_list_append mt_append (pv 2) (pa_cons (pe_op op_mod (pe_callTy call_int1 (by rfl) T.z_int (by decide +kernel) (pa_cons (pv 0) pa_nil)) pe_int) pa_nil)))
      (pss_one (ps_set (i := 0) sc_law_bits.nd rfl (Or.inl rfl) (pe_op op_fdivW (pv 0) pe_int)))))
      (pss_one (ps_ret (pv 2))))), ?_⟩
    refine a_setL (Ex.refl H) (el_lst ea_nil (by decide)) (fun p H5 hp e5 => ?_)
    refine a_forR (n := c) e5 (ea_cons (ev_var rfl) ea_nil) ⟨hc0, by omega⟩
      (fun i σ' H' => ∃ (m : Int) (y : Option V) (bs : List Int), σ' = [some (.int m), some (.int c), some (.ref p), y] ∧ bs.length = i ∧ Bits bs ∧ Ex (upd H p (.lst (bs.map V.int))) H')
      (fun H6 e6 => ⟨n, none, [], rfl, rfl, fun b hb => absurd hb List.not_mem_nil, e6⟩) ?_ ?_
    · rintro i σ' H' hi ⟨m, y, bs, rfl, hl, hB, e6⟩
      refine a_app (v := .int (m % 2)) e6 (ev_var rfl) upd_same (ev_op (ev_int1 (ev_var rfl)) ev_c (rv_I (by decide))) (by rw [List.length_map, hl]; omega) (fun H7 e7 => ?_)
      rw [upd_upd] at e7
      refine a_set1 e7 (ev_op (ev_var rfl) ev_c (rv_I (wide_div (b := 64) (by decide) (by decide) (by decide) (by decide)))) (fun H8 e8 => ?_)
      refine ⟨m / 2, _, bs ++ [m % 2], rfl, by rw [List.length_append, hl]; rfl, fun b hb => ?_, ?_⟩
      · rcases List.mem_append.mp hb with hb | hb
        · exact hB b hb
        · have := List.mem_singleton.mp hb
          omega
      · rw [List.map_append]
        exact e8
    · rintro σ' H' ⟨m, y, bs, rfl, hl, hB, e6⟩
      refine a_ret e6 (ev_var rfl) (fun H7 e7 => ?_)
      exact q bs hB hl p H7 hp ((Ex.new hp).trans e7) (e7 p _ upd_same)

def kinds10 : List (Str × Int × Int) := [("not", 1, 1), ("and", 2, 3), ("or", 2, 3), ("nand", 2, 3), ("nor", 2, 3), ("xor", 2, 2), ("mux", 3, 3), ("zero", 0, 0), ("one", 0, 0), ("latch", 1, 1)]
theorem k10_cases {k : Str} {m n : Int} {C : Str → Int → Int → Prop} (h : (k, m, n) ∈ kinds10) (h0 : C "not" 1 1) (h1 : C "and" 2 3) (h2 : C "or" 2 3) (h3 : C "nand" 2 3) (h4 : C "nor" 2 3) (h5 : C "xor" 2 2) (h6 : C "mux" 3 3) (h7 : C "zero" 0 0) (h8 : C "one" 0 0) (h9 : C "latch" 1 1) : C k m n := by
  have h' : (k = "not" ∧ m = 1 ∧ n = 1) ∨ (k = "and" ∧ m = 2 ∧ n = 3) ∨ (k = "or" ∧ m = 2 ∧ n = 3) ∨ (k = "nand" ∧ m = 2 ∧ n = 3) ∨ (k = "nor" ∧ m = 2 ∧ n = 3) ∨ (k = "xor" ∧ m = 2 ∧ n = 2) ∨ (k = "mux" ∧ m = 3 ∧ n = 3) ∨ (k = "zero" ∧ m = 0 ∧ n = 0) ∨ (k = "one" ∧ m = 0 ∧ n = 0) ∨ (k = "latch" ∧ m = 1 ∧ n = 1) := by
    simpa [kinds10] using h
  rcases h' with ⟨rfl, rfl, rfl⟩ | ⟨rfl, rfl, rfl⟩ | ⟨rfl, rfl, rfl⟩ | ⟨rfl, rfl, rfl⟩ | ⟨rfl, rfl, rfl⟩ | ⟨rfl, rfl, rfl⟩ | ⟨rfl, rfl, rfl⟩ | ⟨rfl, rfl, rfl⟩ | ⟨rfl, rfl, rfl⟩ | ⟨rfl, rfl, rfl⟩ <;> assumption
def sp_input_counts (K : PySem.W.Frag) : Sp := fun vs H Q _ => ∃ (k : Str) (m n : Int), vs = [.str k] ∧ (k, m, n) ∈ kinds10 ∧ ∀ p, (∀ H', SqT K H' p [.int m, .int n]) → RetV (.ref p) H Q
theorem ok_input_counts (T : Top K mg w a) : FnOk P w K mg base CX0 1 a.f_input_counts a.d_input_counts ["kind"] (sp_input_counts K) := by
  refine T.F_input_counts.ok sc_input_counts (fun vs H Q E h => ?_) (fun cdv A outer s H vs Q E hr h => ?_)
  · obtain ⟨k, m, n, rfl, _⟩ := h
    rfl
  · obtain ⟨k, m, n, rfl, hk, q⟩ := h
    refine ⟨_, (pss_one (ps_ret (pe_ix ix_kdict (pe_glob (v := .ref a.v_INPUT_COUNTS) rfl T.c_INPUT_COUNTS rfl) (pv 0) (fun _ _ => rfl)))), ?_⟩
    have f : ∃ p, KDct K w a.v_INPUT_COUNTS k (.ref p) ∧ ∀ H', SqT K H' p [.int m, .int n] :=
      k10_cases (C := fun k m n => ∃ p, KDct K w a.v_INPUT_COUNTS k (.ref p) ∧ ∀ H', SqT K H' p [.int m, .int n]) hk ⟨_, T.e_INPUT_COUNTS_0, T.s_INPUT_COUNTS_0⟩ ⟨_, T.e_INPUT_COUNTS_1, T.s_INPUT_COUNTS_1⟩ ⟨_, T.e_INPUT_COUNTS_2, T.s_INPUT_COUNTS_2⟩ ⟨_, T.e_INPUT_COUNTS_3, T.s_INPUT_COUNTS_3⟩ ⟨_, T.e_INPUT_COUNTS_4, T.s_INPUT_COUNTS_4⟩ ⟨_, T.e_INPUT_COUNTS_5, T.s_INPUT_COUNTS_5⟩ ⟨_, T.e_INPUT_COUNTS_6, T.s_INPUT_COUNTS_6⟩ ⟨_, T.e_INPUT_COUNTS_7, T.s_INPUT_COUNTS_7⟩ ⟨_, T.e_INPUT_COUNTS_8, T.s_INPUT_COUNTS_8⟩ ⟨_, T.e_INPUT_COUNTS_9, T.s_INPUT_COUNTS_9⟩
    obtain ⟨p, f1, f2⟩ := f
    exact a_ret (Ex.refl H) (ev_op ev_c (ev_var rfl) (rv_kd f1)) (q p f2)

def sp_law_counts (K : PySem.W.Frag) : Sp := fun vs H Q _ => ∃ (k : Str) (m n : Int), vs = [.str k] ∧ (k, m, n) ∈ kinds10 ∧ ∀ p H2, H p = none → Ex H H2 → H2 p = some (.tup [.int m, .int n]) → Q (.ref p) H2
theorem inV_one {k x : Str} {r : List V} : inV (.str k) (.str x :: r) = (decide (k = x) || inV (.str k) r) := by
  show ((x == k) || _) = _
  by_cases h : k = x
  · subst h; simp
  · have e : (x == k) = false := by simpa using fun z => h z.symm
    rw [e, decide_eq_false h]; rfl
theorem inV_nil {x : V} : inV x [] = false := rfl
theorem ev_inN {σ : L2.St} {G : Hp} {ta tb : TE} {x : V} {xs : List V} (ha : Ev ta σ G x) (hb : EvL tb σ G xs) (hx : flatV x = true) (hf : xs.all flatV = true) : Ev (tOp (rIn K false) ta tb) σ G (.bl (inV x xs)) := ev_opL ha hb fun _ _ h _ => rv_isL (sq_of h) hx hf
theorem ok_law_counts (T : Top K mg w a) : FnOk P w K mg base CX0 1 a.f_law_counts a.d_law_counts ["kind"] (sp_law_counts K) := by
  refine T.F_law_counts.ok sc_law_counts (fun vs H Q E h => ?_) (fun cdv A outer s H vs Q E hr h => ?_)
  · obtain ⟨k, m, n, rfl, _⟩ := h
    rfl
  · obtain ⟨k, m, n, rfl, hk, q⟩ := h
    refine ⟨_, (pss_cons (ps_if (pt_cmpR op_in_seq (pv 0) (pe_lst (pa_cons pe_str (pa_cons pe_str (pa_cons pe_str (pa_cons pe_str pa_nil))))) (by rfl))
      (pss_one (ps_ret (pe_tup (pa_cons pe_int (pa_cons pe_int pa_nil)))))
      pss_nil)
      (pss_cons (ps_if (pt_cmpR op_in_seq (pv 0) (pe_lst (pa_cons pe_str (pa_cons pe_str pa_nil))) (by rfl))
      (pss_one (ps_ret (pe_tup (pa_cons pe_int (pa_cons pe_int pa_nil)))))
      pss_nil)
      (pss_cons (ps_if (pt_cmpR op_in_seq (pv 0) (pe_lst (pa_cons pe_str (pa_cons pe_str pa_nil))) (by rfl))
      (pss_one (ps_ret (pe_tup (pa_cons pe_int (pa_cons pe_int pa_nil)))))
      pss_nil)
      (pss_cons (ps_if (pt_cmpR op_eq (pv 0) pe_str (nomark _))
      (pss_one (ps_ret (pe_tup (pa_cons pe_int (pa_cons pe_int pa_nil)))))
      pss_nil)
      (pss_one (ps_ret (pe_tup (pa_cons pe_int (pa_cons pe_int pa_nil))))))))), ?_⟩
    have f1 : inV (.str k) [.str "and", .str "or", .str "nand", .str "nor"] = true → m = 2 ∧ n = 3 :=
      k10_cases (C := fun k m n => inV (.str k) [.str "and", .str "or", .str "nand", .str "nor"] = true → m = 2 ∧ n = 3) hk (by decide +kernel) (by decide +kernel) (by decide +kernel) (by decide +kernel) (by decide +kernel) (by decide +kernel) (by decide +kernel) (by decide +kernel) (by decide +kernel) (by decide +kernel)
    have f2 : inV (.str k) [.str "zero", .str "one"] = true → m = 0 ∧ n = 0 :=
      k10_cases (C := fun k m n => inV (.str k) [.str "zero", .str "one"] = true → m = 0 ∧ n = 0) hk (by decide +kernel) (by decide +kernel) (by decide +kernel) (by decide +kernel) (by decide +kernel) (by decide +kernel) (by decide +kernel) (by decide +kernel) (by decide +kernel) (by decide +kernel)
    have f3 : inV (.str k) [.str "not", .str "latch"] = true → m = 1 ∧ n = 1 :=
      k10_cases (C := fun k m n => inV (.str k) [.str "not", .str "latch"] = true → m = 1 ∧ n = 1) hk (by decide +kernel) (by decide +kernel) (by decide +kernel) (by decide +kernel) (by decide +kernel) (by decide +kernel) (by decide +kernel) (by decide +kernel) (by decide +kernel) (by decide +kernel)
    have f4 : inV (.str k) [.str "and", .str "or", .str "nand", .str "nor"] = false → inV (.str k) [.str "zero", .str "one"] = false → inV (.str k) [.str "not", .str "latch"] = false → decide (V.str k = V.str "xor") = false → m = 3 ∧ n = 3 :=
      k10_cases (C := fun k m n => inV (.str k) [.str "and", .str "or", .str "nand", .str "nor"] = false → inV (.str k) [.str "zero", .str "one"] = false → inV (.str k) [.str "not", .str "latch"] = false → decide (V.str k = V.str "xor") = false → m = 3 ∧ n = 3) hk (by decide +kernel) (by decide +kernel) (by decide +kernel) (by decide +kernel) (by decide +kernel) (by decide +kernel) (by decide +kernel) (by decide +kernel) (by decide +kernel) (by decide +kernel)
    have f5 : decide (V.str k = V.str "xor") = true → m = 2 ∧ n = 2 :=
      k10_cases (C := fun k m n => decide (V.str k = V.str "xor") = true → m = 2 ∧ n = 2) hk (by decide +kernel) (by decide +kernel) (by decide +kernel) (by decide +kernel) (by decide +kernel) (by decide +kernel) (by decide +kernel) (by decide +kernel) (by decide +kernel) (by decide +kernel)
    refine a_when (Ex.refl H) (et_test (ev_inN (ev_var rfl) (el_lst (ea_cons ev_c (ea_cons ev_c (ea_cons ev_c (ea_cons ev_c ea_nil)))) (by decide)) rfl rfl)) (fun hb H1 e1 => ?_) (fun hb1 H1 e1 => ?_)
    · obtain ⟨rfl, rfl⟩ := f1 hb
      exact a_retU e1 (eu_tup (ea_cons ev_c (ea_cons ev_c ea_nil)) (by decide)) q
    refine a_when e1 (et_test (ev_inN (ev_var rfl) (el_lst (ea_cons ev_c (ea_cons ev_c ea_nil)) (by decide)) rfl rfl)) (fun hb H1 e1 => ?_) (fun hb2 H1 e1 => ?_)
    · obtain ⟨rfl, rfl⟩ := f2 hb
      exact a_retU e1 (eu_tup (ea_cons ev_c (ea_cons ev_c ea_nil)) (by decide)) q
    refine a_when e1 (et_test (ev_inN (ev_var rfl) (el_lst (ea_cons ev_c (ea_cons ev_c ea_nil)) (by decide)) rfl rfl)) (fun hb H1 e1 => ?_) (fun hb3 H1 e1 => ?_)
    · obtain ⟨rfl, rfl⟩ := f3 hb
      exact a_retU e1 (eu_tup (ea_cons ev_c (ea_cons ev_c ea_nil)) (by decide)) q
    refine a_when e1 (et_test (ev_op (ev_var rfl) ev_c (rv_eq rfl))) (fun hb H1 e1 => ?_) (fun hb4 H1 e1 => ?_)
    · obtain ⟨rfl, rfl⟩ := f5 hb
      exact a_retU e1 (eu_tup (ea_cons ev_c (ea_cons ev_c ea_nil)) (by decide)) q
    · obtain ⟨rfl, rfl⟩ := f4 hb1 hb2 hb3 hb4
      exact a_retU e1 (eu_tup (ea_cons ev_c (ea_cons ev_c ea_nil)) (by decide)) q
def sp_law_right_counts (K : PySem.W.Frag) : Sp := fun vs H Q _ => ∃ (k : Str) (m n : Int), vs = [.str k] ∧ (k, m, n) ∈ kinds10 ∧ RetV (.bl true) H Q
theorem ok_law_right_counts (T : Top K mg w a) : FnOk P w K mg base CX0 2 a.f_law_right_counts a.d_law_right_counts ["kind"] (sp_law_right_counts K) := by
  refine T.F_law_right_counts.ok sc_law_right_counts (fun vs H Q E h => ?_) (fun cdv A outer s H vs Q E hr h => ?_)
  · obtain ⟨k, m, n, rfl, _⟩ := h
    rfl
  · obtain ⟨k, m, n, rfl, hk, q⟩ := h
    refine ⟨_, (pss_cons (ps_set (i := 1) sc_law_right_counts.nd rfl (Or.inl rfl) (pe_call (ok_input_counts T) (hr.mono (by decide)) (by rfl) T.g_input_counts T.F_input_counts.kp T.b_input_counts .nil pass0 (pa_cons (pv 0) pa_nil)))
      (pss_cons (ps_set (i := 2) sc_law_right_counts.nd rfl (Or.inl rfl) (pe_call (ok_law_counts T) (hr.mono (by decide)) (by rfl) T.g_law_counts T.F_law_counts.kp T.b_law_counts .nil pass0 (pa_cons (pv 0) pa_nil)))
      (pss_cons (ps_if (PW.pt (pw_or (pt_not (pt_val (pe_callB call_isi (by rfl) T.z_isinstance (by decide +kernel) (pa_cons (pv 1) (pa_cons (pe_bltn (v := .ty "tuple") (by rfl) T.z_tuple (by decide +kernel) rfl) pa_nil))))) (pw_or1 (pt_cmpR op_ne (pe_callB call_len_seq (by rfl) T.z_len (by decide +kernel) (pa_cons (pv 1) pa_nil)) pe_int (nomark _)))))
      (pss_one (ps_ret pe_bl))
      pss_nil)
      (pss_cons (ps_if (PW.pt (pw_or (pt_not (pt_val (pe_call (ok_law_is_integer T) (hr.mono (by decide)) (by rfl) T.g_law_is_integer T.F_law_is_integer.kp T.b_law_is_integer .nil pass0 (pa_cons (pe_ix ix_tup (pv 1) pe_int (fun _ _ => rfl)) pa_nil)))) (pw_or1 (pt_not (pt_val (pe_call (ok_law_is_integer T) (hr.mono (by decide)) (by rfl) T.g_law_is_integer T.F_law_is_integer.kp T.b_law_is_integer .nil pass0 (pa_cons (pe_ix ix_tup (pv 1) pe_int (fun _ _ => rfl)) pa_nil)))))))
      (pss_one (ps_ret pe_bl))
      pss_nil)
      (pss_one (ps_ret (pe_and (pe_cmpR op_eq (pe_ix ix_tup (pv 1) pe_int (fun _ _ => rfl)) (pe_ix ix_tup (pv 2) pe_int (fun _ _ => rfl)) (nomark _)) (pe_one (pe_cmpR op_eq (pe_ix ix_tup (pv 1) pe_int (fun _ _ => rfl)) (pe_ix ix_tup (pv 2) pe_int (fun _ _ => rfl)) (nomark _)))))))))), ?_⟩
    refine a_setV (Ex.refl H) (P := fun v => ∃ p, v = .ref p ∧ ∀ H', SqT K H' p [.int m, .int n]) (ew_call (ea_cons (ev_var rfl) ea_nil) fun H1 _ Q q E => ⟨k, m, n, rfl, hk, fun p hp H2 e2 => q _ H2 ⟨p, rfl, hp⟩ e2⟩) (fun v H1 hP e1 => ?_)
    obtain ⟨p, rfl, hp⟩ := hP
    refine a_setU e1 (xs := [.int m, .int n]) (eu_call (ea_cons (ev_var rfl) ea_nil) fun H1 _ Q q E => ⟨k, m, n, rfl, hk, q⟩) (fun r H2 hr2 e2 => ?_)
    have hr' : SqT K (upd H r (.tup [.int m, .int n])) r [.int m, .int n] := st_of upd_same
    have a0 : ∀ {G : Hp} {σ : L2.St} {i : Int} (h : Ev (tVar 1) σ G (.ref p)) (x : Int), atI [V.int m, V.int n] i = some (.int x) → Ev (tOp (rIxT K) (tVar 1) (tC (.int i))) σ G (.int x) := fun h x e => ev_op h ev_c (rv_ixT (hp _) e)
    refine a_when e2 (b := false) (et_is (et_or (et_not (et_B (ev_isiTupS (ev_var rfl) (hp _)))) fun _ => et_test (ev_op (ev_lenT (ev_var rfl) (hp _)) ev_c (rv_ne rfl))) (by simp)) (fun hb => nomatch hb) (fun _ H3 e3 => ?_)
    refine a_when e3 (b := false) (et_is (et_or (et_not (et_B (ev_call1 (z := .bl true) (ea_cons (a0 (ev_var rfl) m rfl) ea_nil) fun H1 _ Q q E => ⟨m, rfl, q⟩))) fun _ => et_not (et_B (ev_call1 (z := .bl true) (ea_cons (a0 (ev_var rfl) n rfl) ea_nil) fun H1 _ Q q E => ⟨n, rfl, q⟩))) rfl) (fun hb => nomatch hb) (fun _ H4 e4 => ?_)
    refine a_ret e4 (v := .bl true) (ev_is (ev_andV (ev_op (a0 (ev_var rfl) m rfl) (ev_op (ev_var rfl) ev_c (rv_ixT hr' rfl)) (rv_eq rfl)) fun _ => ev_op (a0 (ev_var rfl) n rfl) (ev_op (ev_var rfl) ev_c (rv_ixT hr' rfl)) (rv_eq rfl)) (by simp)) (fun H5 e5 => q H5 ((Ex.new hr2).trans e5))

/-- parts = _law_parts(e, [sizes]) -/
theorem en_parts {σ : L2.St} {G : Hp} {ta tb : TE} {E : XK} {c : Int} {sizes : List Int} (h1 : Ev ta σ G (.int c)) (h2 : ∀ H1, Ex G H1 → EvL tb σ H1 (sizes.map V.int)) (hl : sizes.length ≤ 1000) (hp : ∀ s ∈ sizes, 0 < s ∧ s ≤ 1000000000) :
    EvN (tCall (sp_law_parts K) [] E (tCons ta (tCons tb tNil))) σ G (fun xs => ∃ ns, xs = ns.map V.int ∧ Draw ns sizes) :=
  en_callL h1 h2 fun p H1 _ hp1 Q q E => ⟨c, p, sizes, rfl, sq_of hp1, hl, hp, fun ns hd r H2 hr e2 h2 => q _ r H2 ⟨ns, rfl, hd⟩ hr e2 h2⟩
def spLaw (K : PySem.W.Frag) : Sp := fun vs H Q _ => ∃ (a : Addr) (ns : List Int), vs = [.ref a] ∧ SqL K H a (ns.map V.int) ∧ ns.length ≤ 63 ∧ ∀ H', Q (.bl true) H'

theorem gk_of {k : Str} {m n : Int} (h : (k, m, n) ∈ kinds10) (hl : k ≠ "latch") : GK k m.toNat ∧ GK k n.toNat ∧ 0 ≤ m ∧ 0 ≤ n ∧ m ≤ 3 ∧ n ≤ 3 := by
  revert hl
  refine k10_cases (C := fun k m n => k ≠ "latch" → GK k m.toNat ∧ GK k n.toNat ∧ 0 ≤ m ∧ 0 ≤ n ∧ m ≤ 3 ∧ n ≤ 3) h ?_ ?_ ?_ ?_ ?_ ?_ ?_ ?_ ?_ ?_ <;> intro hl
  · exact ⟨.not, .not, by decide, by decide, by decide, by decide⟩
  · exact ⟨.and2, .and3, by decide, by decide, by decide, by decide⟩
  · exact ⟨.or2, .or3, by decide, by decide, by decide, by decide⟩
  · exact ⟨.nand2, .nand3, by decide, by decide, by decide, by decide⟩
  · exact ⟨.nor2, .nor3, by decide, by decide, by decide, by decide⟩
  · exact ⟨.xor, .xor, by decide, by decide, by decide, by decide⟩
  · exact ⟨.mux, .mux, by decide, by decide, by decide, by decide⟩
  · exact ⟨.zero, .zero, by decide, by decide, by decide, by decide⟩
  · exact ⟨.one, .one, by decide, by decide, by decide, by decide⟩
  · exact absurd rfl hl
def kinds9 : List Str := ["not", "and", "or", "nand", "nor", "xor", "mux", "zero", "one"]
theorem kinds9_at (j : Nat) (h : j < 9) : ∃ m n, (kinds9.getD j "", m, n) ∈ kinds10 ∧ kinds9.getD j "" ≠ "latch" ∧ (kinds9.map V.str)[j]? = some (.str (kinds9.getD j "")) := by
  match j, h with
  | 0, _ => exact ⟨1, 1, by decide +kernel, by decide +kernel, rfl⟩
  | 1, _ => exact ⟨2, 3, by decide +kernel, by decide +kernel, rfl⟩
  | 2, _ => exact ⟨2, 3, by decide +kernel, by decide +kernel, rfl⟩
  | 3, _ => exact ⟨2, 3, by decide +kernel, by decide +kernel, rfl⟩
  | 4, _ => exact ⟨2, 3, by decide +kernel, by decide +kernel, rfl⟩
  | 5, _ => exact ⟨2, 2, by decide +kernel, by decide +kernel, rfl⟩
  | 6, _ => exact ⟨3, 3, by decide +kernel, by decide +kernel, rfl⟩
  | 7, _ => exact ⟨0, 0, by decide +kernel, by decide +kernel, rfl⟩
  | 8, _ => exact ⟨0, 0, by decide +kernel, by decide +kernel, rfl⟩
theorem ok_law (T : Top K mg w a) : FnOk P w K mg base CX0 3 a.f_law a.d_law ["script"] (spLaw K) := by
  refine T.F_law.ok sc_law (fun vs H Q E h => ?_) (fun cdv A outer s H vs Q E hr h => ?_)
  · obtain ⟨l, ns, rfl, _⟩ := h
    rfl
  · obtain ⟨l, ns, rfl, hS, hlen, q⟩ := h
    refine ⟨_, (pss_cons (ps_set (i := 1) sc_law.nd rfl (Or.inl rfl) (pe_lst (pa_cons pe_str (pa_cons pe_str (pa_cons pe_str (pa_cons pe_str (pa_cons pe_str (pa_cons pe_str (pa_cons pe_str (pa_cons pe_str (pa_cons pe_str pa_nil)))))))))))
      (pss_cons (ps_for PassesOwn.never rfl (pi_list (pe_slice sl_list (pe_op (op_catL) (pe_lst (pa_cons pe_int pa_nil)) (pv 0)) po_none (po_some pe_int))) (pg_name (i := 2) sc_law.nd rfl (Or.inl rfl))
      (pss_cons (ps_set (i := 3) sc_law.nd rfl (Or.inl rfl) (pe_call (ok_law_parts T) (hr.mono (by decide)) (by rfl) T.g_law_parts T.F_law_parts.kp T.b_law_parts .nil pass0 (pa_cons (pv 2) (pa_cons (pe_lst (pa_cons pe_int (pa_cons pe_int (pa_cons pe_int pa_nil)))) pa_nil))))
      (pss_cons (ps_set (i := 4) sc_law.nd rfl (Or.inl rfl) (pe_ix ix_list (pv 1) (pe_ix ix_list (pv 3) pe_int (fun _ _ => rfl)) (fun _ _ => rfl)))
      (pss_cons (ps_set (i := 5) sc_law.nd rfl (Or.inl rfl) (pe_call (ok_law_counts T) (hr.mono (by decide)) (by rfl) T.g_law_counts T.F_law_counts.kp T.b_law_counts .nil pass0 (pa_cons (pv 4) pa_nil)))
      (pss_cons (ps_set (i := 6) sc_law.nd rfl (Or.inl rfl) (pe_call (ok_law_bits T) (hr.mono (by decide)) (by rfl) T.g_law_bits T.F_law_bits.kp T.b_law_bits .nil pass0 (pa_cons (pe_ix ix_list (pv 3) pe_int (fun _ _ => rfl)) (pa_cons (pe_ix ix_tup (pv 5) (pe_callTy call_int1 (by rfl) T.z_int (by decide +kernel) (pa_cons (pe_ix ix_list (pv 3) pe_int (fun _ _ => rfl)) pa_nil)) (fun _ _ => rfl)) pa_nil))))
      (pss_cons (ps_set (i := 7) sc_law.nd rfl (Or.inl rfl) (pe_callTy call_list_of (by rfl) T.z_list (by decide +kernel) (pa_cons (pv 6) pa_nil)))
      (pss_cons (ps_set (i := 8) sc_law.nd rfl (Or.inl rfl) (pe_call (ok_gate_value T) (hr.mono (by decide)) (by rfl) T.g_gate_value T.F_gate_value.kp T.b_gate_value .nil pass0 (pa_cons (pv 4) (pa_cons (pv 7) pa_nil))))
      (pss_cons (ps_if (PW.pt (pw_or (pt_not (pt_val (pe_call (ok_law_is_integer T) (hr.mono (by decide)) (by rfl) T.g_law_is_integer T.F_law_is_integer.kp T.b_law_is_integer .nil pass0 (pa_cons (pv 8) pa_nil)))) (pw_or (pt_cmpR op_ne (pv 8) (pe_call (ok_law_value T) (hr.mono (by decide)) (by rfl) T.g_law_value T.F_law_value.kp T.b_law_value .nil pass0 (pa_cons (pv 4) (pa_cons (pv 6) pa_nil))) (nomark _)) (pw_or1 (pt_cmpR (op_neD (hu64 hr)) (pv 7) (pv 6) (nomark _))))))
      (pss_one (ps_ret pe_bl))
      pss_nil)
      (pss_one (ps_if (PW.pt (pw_or (pt_cmpR op_ne (pe_call (ok_gate_value T) (hr.mono (by decide)) (by rfl) T.g_gate_value T.F_gate_value.kp T.b_gate_value .nil pass0 (pa_cons (pv 4) (pa_cons (pv 7) pa_nil))) (pv 8) (nomark _)) (pw_or1 (pt_not (pt_val (pe_call (ok_law_right_counts T) (hr.mono (by decide)) (by rfl) T.g_law_right_counts T.F_law_right_counts.kp T.b_law_right_counts .nil pass0 (pa_cons (pv 4) pa_nil)))))))
      (pss_one (ps_ret pe_bl))
      pss_nil))))))))))
      (pss_one (ps_ret (pe_call (ok_law_right_counts T) (hr.mono (by decide)) (by rfl) T.g_law_right_counts T.F_law_right_counts.kp T.b_law_right_counts .nil pass0 (pa_cons pe_str pa_nil)))))), ?_⟩
    refine a_setL (Ex.refl H) (xs := kinds9.map V.str) (el_lst (ea_cons ev_c (ea_cons ev_c (ea_cons ev_c (ea_cons ev_c (ea_cons ev_c (ea_cons ev_c (ea_cons ev_c (ea_cons ev_c (ea_cons ev_c ea_nil))))))))) (by decide)) (fun p H1 hp e1 => ?_)
    have hK : SqL K (upd H p (.lst (kinds9.map V.str))) p (kinds9.map V.str) := sq_of upd_same
    have hS1 : SqL K (upd H p (.lst (kinds9.map V.str))) l (ns.map V.int) := ex_l (Ex.new hp) hS
    generalize upd H p (.lst (kinds9.map V.str)) = G0 at e1 hK hS1
    refine a_forNL e1 (el_slN (xs := [V.int 0] ++ ns.map V.int) (el_catNL (el_lst (ea_cons ev_c ea_nil) (by decide)) (fun H1 _ => ev_var rfl) hS1 (by
      show 1 + (ns.map V.int).length ≤ 100000
      rw [List.length_map]; omega)) (fun H1 _ => eo_none) (fun H1 _ => eo_some ev_c))
      (fun r i σ' H' => ∃ y1 y2 y3 y4 y5 y6 y7, σ' = [some (.ref l), some (.ref p), y1, y2, y3, y4, y5, y6, y7] ∧ Ex G0 H' ∧ SqL K H' r (cutV ([V.int 0] ++ ns.map V.int) none (some 41)))
      (fun r H2 hr0 e2 => ⟨none, none, none, none, none, none, none, rfl, (Ex.new hr0).trans e2, ex_l e2 (sq_of upd_same)⟩) (fun r i σ' H' _ ⟨_, _, _, _, _, _, _, _, _, h⟩ => h) ?_ ?_
    · rintro r i x σ' H' hx ⟨y1, y2, y3, y4, y5, y6, y7, rfl, e2, hR⟩
      obtain ⟨c, rfl⟩ : ∃ c, x = V.int c := by
        rw [show (some 41 : Option Int) = some ((41 : Nat) : Int) from rfl, cutV_to] at hx
        have hm : x ∈ [V.int 0] ++ ns.map V.int := List.mem_of_mem_take (List.mem_of_getElem? hx)
        rcases List.mem_append.mp hm with h | h
        · exact ⟨0, List.mem_singleton.mp h⟩
        · obtain ⟨c, _, e⟩ := List.mem_map.mp h
          exact ⟨c, e.symm⟩
      have hK2 : SqL K H' p (kinds9.map V.str) := ex_l e2 hK
      have keep : ∀ {H2}, Ex H' H2 → Ex G0 H2 ∧ SqL K H2 r (cutV ([V.int 0] ++ ns.map V.int) none (some 41)) := fun e => ⟨e2.trans e, ex_l e hR⟩
      generalize cutV ([V.int 0] ++ ns.map V.int) none (some 41) = zs at hR keep
      refine a_setN (Ex.refl H') (en_parts (sizes := [9, 2, 8]) (ev_var rfl) (fun H1 _ => el_lst (ea_cons ev_c (ea_cons ev_c (ea_cons ev_c ea_nil))) (by decide)) (by decide) (by decide)) (fun xs r2 H3 hP hr3 e3 => ?_)
      obtain ⟨ps, rfl, hd⟩ := hP
      have hpl : ps.length = 3 := hd.len
      have d0 := hd.at_ 0 (by decide)
      have d1 := hd.at_ 1 (by decide)
      have hK3 : SqL K (upd H' r2 (.lst (ps.map V.int))) p (kinds9.map V.str) := ex_l (Ex.new hr3) hK2
      have hPs : SqL K (upd H' r2 (.lst (ps.map V.int))) r2 (ps.map V.int) := sq_of upd_same
      have x3 : Ex H' (upd H' r2 (.lst (ps.map V.int))) := Ex.new hr3
      generalize upd H' r2 (.lst (ps.map V.int)) = G1 at e3 hK3 hPs x3
      have at_ : ∀ k : Nat, k < 3 → atI (ps.map V.int) (k : Int) = some (.int (ps.getD k 0)) := fun k hk => at_map (by omega)
      obtain ⟨j, hj⟩ : ∃ j : Nat, ps.getD 0 0 = (j : Int) := ⟨(ps.getD 0 0).toNat, by omega⟩
      have hj9 : j < 9 := by
        have : ps.getD 0 0 < 9 := d0.2
        omega
      obtain ⟨m, n, hk, hla, hat⟩ := kinds9_at j hj9
      generalize kinds9.getD j "" = kind at hk hla hat
      obtain ⟨gm, gn, m0, n0, m3, n3⟩ := gk_of hk hla
      refine a_set e3 (v := .str kind) (ev_op (ev_var rfl) (ev_op (ev_var rfl) ev_c (rv_ixL hPs (at_ 0 (by decide)))) (rv_ixL hK3 (by rw [hj]; exact atI_nat hat))) (fun H4 e4 => ?_)
      refine a_setU e4 (xs := [.int m, .int n]) (eu_call (ea_cons (ev_var rfl) ea_nil) fun H1 _ Q q E => ⟨kind, m, n, rfl, hk, q⟩) (fun r3 H5 hr5 e5 => ?_)
      have hPs2 : SqL K (upd G1 r3 (.tup [.int m, .int n])) r2 (ps.map V.int) := ex_l (Ex.new hr5) hPs
      have hC : SqT K (upd G1 r3 (.tup [.int m, .int n])) r3 [.int m, .int n] := st_of upd_same
      have x5 : Ex H' (upd G1 r3 (.tup [.int m, .int n])) := x3.trans (Ex.new hr5)
      generalize upd G1 r3 (.tup [.int m, .int n]) = G2 at e5 hPs2 hC x5
      obtain ⟨c, hc, hcg, hc0, hc3⟩ : ∃ c : Int, atI [V.int m, V.int n] (ps.getD 1 0) = some (.int c) ∧ GK kind c.toNat ∧ 0 ≤ c ∧ c ≤ 3 := by
        have h2 : ps.getD 1 0 < 2 := d1.2
        rcases (show ps.getD 1 0 = 0 ∨ ps.getD 1 0 = 1 by omega) with h | h
        · exact ⟨m, by rw [h]; rfl, gm, m0, m3⟩
        · exact ⟨n, by rw [h]; rfl, gn, n0, n3⟩
      refine a_setN e5 (P := fun xs => ∃ bs, xs = bs.map V.int ∧ Bits bs ∧ bs.length = c.toNat) (en_call (ea_cons (ev_op (ev_var rfl) ev_c (rv_ixL hPs2 (at_ 2 (by decide)))) (ea_cons (ev_op (ev_var rfl) (ev_int1 (ev_op (ev_var rfl) ev_c (rv_ixL hPs2 (at_ 1 (by decide))))) (rv_ixT hC hc)) ea_nil)) fun H1 _ Q q E => ⟨_, c, rfl, hc0, by omega, fun bs hB hl p H2 h1 h2 h3 => q _ p H2 ⟨bs, rfl, hB, hl⟩ h1 h2 h3⟩) (fun xs r4 H6 hP hr6 e6 => ?_)
      obtain ⟨bs, rfl, hB, hbl⟩ := hP
      have hBs : SqL K (upd G2 r4 (.lst (bs.map V.int))) r4 (bs.map V.int) := sq_of upd_same
      have x6 : Ex H' (upd G2 r4 (.lst (bs.map V.int))) := x5.trans (Ex.new hr6)
      generalize upd G2 r4 (.lst (bs.map V.int)) = G3 at e6 hBs x6
      refine a_setL e6 (el_listL (ev_var rfl) hBs) (fun r5 H7 hr7 e7 => ?_)
      have hB1 : SqL K (upd G3 r5 (.lst (bs.map V.int))) r4 (bs.map V.int) := ex_l (Ex.new hr7) hBs
      have hB2 : SqL K (upd G3 r5 (.lst (bs.map V.int))) r5 (bs.map V.int) := sq_of upd_same
      have x7 : Ex H' (upd G3 r5 (.lst (bs.map V.int))) := x6.trans (Ex.new hr7)
      generalize upd G3 r5 (.lst (bs.map V.int)) = G4 at e7 hB1 hB2 x7
      have gk : GK kind bs.length := by rw [hbl]; exact hcg
      have gv : ∀ {σ : L2.St} {H1 : Hp} {E : XK} {ta tb : TE}, Ex G4 H1 → Ev ta σ H1 (.str kind) → Ev tb σ H1 (.ref r5) → Ev (tCall (sp_gate_value K) [] E (tCons ta (tCons tb tNil))) σ H1 (.int (gateV kind bs)) := fun e h1 h2 =>
        ev_call1 (ea_cons h1 (ea_cons h2 ea_nil)) fun H1 x1 Q hq E => ⟨kind, r5, bs, rfl, ex_l (e.trans x1) hB2, gk, hB, hq⟩
      have lv : ∀ {σ : L2.St} {H1 : Hp} {E : XK} {ta tb : TE}, Ex G4 H1 → Ev ta σ H1 (.str kind) → Ev tb σ H1 (.ref r4) → Ev (tCall (sp_law_value K) [] E (tCons ta (tCons tb tNil))) σ H1 (.int (gateV kind bs)) := fun e h1 h2 =>
        ev_call1 (ea_cons h1 (ea_cons h2 ea_nil)) fun H1 x1 Q hq E => ⟨kind, r4, bs, rfl, ex_l (e.trans x1) hB1, gk, hB, hq⟩
      refine a_set e7 (gv (Ex.refl _) (ev_var rfl) (ev_var rfl)) (fun H8 e8 => ?_)
      refine a_when e8 (b := false) (et_is (et_or (et_not (et_B (ev_call1 (z := .bl true) (ea_cons (ev_var rfl) ea_nil) fun H1 _ Q q E => ⟨_, rfl, q⟩))) fun _ => et_or (et_test (ev_op (ev_var rfl) (lv (Ex.refl _) (ev_var rfl) (ev_var rfl)) (rv_ne rfl))) fun _ => et_test (ev_op (ev_var rfl) (ev_var rfl) (rv_neInts hB2 hB1))) (by simp)) (fun hb => nomatch hb) (fun _ H9 e9 => ?_)
      refine a_when1 e9 (b := false) (et_is (et_or (et_test (ev_op (gv (Ex.refl _) (ev_var rfl) (ev_var rfl)) (ev_var rfl) (rv_ne rfl))) fun _ => et_not (et_B (ev_call1 (z := .bl true) (ea_cons (ev_var rfl) ea_nil) fun H1 _ Q q E => ⟨kind, m, n, rfl, hk, q⟩))) (by simp)) (fun hb => nomatch hb) (fun _ H10 e10 => ?_)
      obtain ⟨k1, k2⟩ := keep (x7.trans e10)
      exact ⟨_, _, _, _, _, _, _, rfl, k1, k2⟩
    · rintro r σ' H' ⟨y1, y2, y3, y4, y5, y6, y7, rfl, e2, hR⟩
      exact a_ret (Ex.refl H') (ev_call1 (z := .bl true) (ea_cons ev_c ea_nil) fun H1 _ Q q E => ⟨"latch", 1, 1, rfl, by decide +kernel, q⟩) (fun H1 _ => q H1)


end
theorem all_mk {l : PySem.W.OpenLaw} {w : World} {K : PySem.W.Frag} {h : Heap} {mg : Str → Option Value} {fa : Addr} (X : K.In h) (G : h.Ns mainGlobals mg) (hfa : mg "law" = some (.ref fa))
    {f_input_counts : Addr} {od_input_counts an_input_counts : Option Addr} {sl_input_counts : Array (Option Value)} {oc_input_counts kV_input_counts dc_input_counts pm_input_counts cd_input_counts ct_input_counts : Value}
    {f_gate_value : Addr} {od_gate_value an_gate_value : Option Addr} {sl_gate_value : Array (Option Value)} {oc_gate_value kV_gate_value dc_gate_value pm_gate_value cd_gate_value ct_gate_value : Value}
    {f_mux_value : Addr} {od_mux_value an_mux_value : Option Addr} {sl_mux_value : Array (Option Value)} {oc_mux_value kV_mux_value dc_mux_value pm_mux_value cd_mux_value ct_mux_value : Value}
    {f_law_parts : Addr} {od_law_parts an_law_parts : Option Addr} {sl_law_parts : Array (Option Value)} {oc_law_parts kV_law_parts dc_law_parts pm_law_parts cd_law_parts ct_law_parts : Value}
    {f_law_value : Addr} {od_law_value an_law_value : Option Addr} {sl_law_value : Array (Option Value)} {oc_law_value kV_law_value dc_law_value pm_law_value cd_law_value ct_law_value : Value}
    {f_law_bits : Addr} {od_law_bits an_law_bits : Option Addr} {sl_law_bits : Array (Option Value)} {oc_law_bits kV_law_bits dc_law_bits pm_law_bits cd_law_bits ct_law_bits : Value}
    {f_law_is_integer : Addr} {od_law_is_integer an_law_is_integer : Option Addr} {sl_law_is_integer : Array (Option Value)} {oc_law_is_integer kV_law_is_integer dc_law_is_integer pm_law_is_integer cd_law_is_integer ct_law_is_integer : Value}
    {f_law_counts : Addr} {od_law_counts an_law_counts : Option Addr} {sl_law_counts : Array (Option Value)} {oc_law_counts kV_law_counts dc_law_counts pm_law_counts cd_law_counts ct_law_counts : Value}
    {f_law_right_counts : Addr} {od_law_right_counts an_law_right_counts : Option Addr} {sl_law_right_counts : Array (Option Value)} {oc_law_right_counts kV_law_right_counts dc_law_right_counts pm_law_right_counts cd_law_right_counts ct_law_right_counts : Value}
    {f_law : Addr} {od_law an_law : Option Addr} {sl_law : Array (Option Value)} {oc_law kV_law dc_law pm_law cd_law ct_law : Value}
    {v_INPUT_COUNTS : Addr} {es_INPUT_COUNTS : Array DictEntry} {m_INPUT_COUNTS : Nat}
    {q_INPUT_COUNTS_0 : Addr} {cd_INPUT_COUNTS_0 : Option Addr} {cn_INPUT_COUNTS_0 : Nat} {cs_INPUT_COUNTS_0 : Array (Option Value)} {t_INPUT_COUNTS_0_0 : Tok} {t_INPUT_COUNTS_0_1 : Tok}
    {q_INPUT_COUNTS_1 : Addr} {cd_INPUT_COUNTS_1 : Option Addr} {cn_INPUT_COUNTS_1 : Nat} {cs_INPUT_COUNTS_1 : Array (Option Value)} {t_INPUT_COUNTS_1_0 : Tok} {t_INPUT_COUNTS_1_1 : Tok}
    {q_INPUT_COUNTS_2 : Addr} {cd_INPUT_COUNTS_2 : Option Addr} {cn_INPUT_COUNTS_2 : Nat} {cs_INPUT_COUNTS_2 : Array (Option Value)} {t_INPUT_COUNTS_2_0 : Tok} {t_INPUT_COUNTS_2_1 : Tok}
    {q_INPUT_COUNTS_3 : Addr} {cd_INPUT_COUNTS_3 : Option Addr} {cn_INPUT_COUNTS_3 : Nat} {cs_INPUT_COUNTS_3 : Array (Option Value)} {t_INPUT_COUNTS_3_0 : Tok} {t_INPUT_COUNTS_3_1 : Tok}
    {q_INPUT_COUNTS_4 : Addr} {cd_INPUT_COUNTS_4 : Option Addr} {cn_INPUT_COUNTS_4 : Nat} {cs_INPUT_COUNTS_4 : Array (Option Value)} {t_INPUT_COUNTS_4_0 : Tok} {t_INPUT_COUNTS_4_1 : Tok}
    {q_INPUT_COUNTS_5 : Addr} {cd_INPUT_COUNTS_5 : Option Addr} {cn_INPUT_COUNTS_5 : Nat} {cs_INPUT_COUNTS_5 : Array (Option Value)} {t_INPUT_COUNTS_5_0 : Tok} {t_INPUT_COUNTS_5_1 : Tok}
    {q_INPUT_COUNTS_6 : Addr} {cd_INPUT_COUNTS_6 : Option Addr} {cn_INPUT_COUNTS_6 : Nat} {cs_INPUT_COUNTS_6 : Array (Option Value)} {t_INPUT_COUNTS_6_0 : Tok} {t_INPUT_COUNTS_6_1 : Tok}
    {q_INPUT_COUNTS_7 : Addr} {cd_INPUT_COUNTS_7 : Option Addr} {cn_INPUT_COUNTS_7 : Nat} {cs_INPUT_COUNTS_7 : Array (Option Value)} {t_INPUT_COUNTS_7_0 : Tok} {t_INPUT_COUNTS_7_1 : Tok}
    {q_INPUT_COUNTS_8 : Addr} {cd_INPUT_COUNTS_8 : Option Addr} {cn_INPUT_COUNTS_8 : Nat} {cs_INPUT_COUNTS_8 : Array (Option Value)} {t_INPUT_COUNTS_8_0 : Tok} {t_INPUT_COUNTS_8_1 : Tok}
    {q_INPUT_COUNTS_9 : Addr} {cd_INPUT_COUNTS_9 : Option Addr} {cn_INPUT_COUNTS_9 : Nat} {cs_INPUT_COUNTS_9 : Array (Option Value)} {t_INPUT_COUNTS_9_0 : Tok} {t_INPUT_COUNTS_9_1 : Tok}
    (a_input_counts : PySem.W.nsIn K mainGlobals "input_counts" = some (some (.ref f_input_counts)))
    (l_input_counts : K.lookup f_input_counts = some ⟨oc_input_counts, od_input_counts, .func (PySem.W.fnOf "input_counts" "input_counts" (defArgs s_input_counts) (defBody s_input_counts) (defScope s_input_counts) .none kV_input_counts dc_input_counts pm_input_counts an_input_counts cd_input_counts ct_input_counts), sl_input_counts⟩)
    (c_input_counts : PySem.W.codeIn K cd_input_counts "input_counts" = true)
    (k_input_counts : PySem.W.keepIn K (.ref f_input_counts) = true)
    (a_gate_value : PySem.W.nsIn K mainGlobals "gate_value" = some (some (.ref f_gate_value)))
    (l_gate_value : K.lookup f_gate_value = some ⟨oc_gate_value, od_gate_value, .func (PySem.W.fnOf "gate_value" "gate_value" (defArgs s_gate_value) (defBody s_gate_value) (defScope s_gate_value) .none kV_gate_value dc_gate_value pm_gate_value an_gate_value cd_gate_value ct_gate_value), sl_gate_value⟩)
    (c_gate_value : PySem.W.codeIn K cd_gate_value "gate_value" = true)
    (k_gate_value : PySem.W.keepIn K (.ref f_gate_value) = true)
    (a_mux_value : PySem.W.nsIn K mainGlobals "mux_value" = some (some (.ref f_mux_value)))
    (l_mux_value : K.lookup f_mux_value = some ⟨oc_mux_value, od_mux_value, .func (PySem.W.fnOf "mux_value" "mux_value" (defArgs s_mux_value) (defBody s_mux_value) (defScope s_mux_value) .none kV_mux_value dc_mux_value pm_mux_value an_mux_value cd_mux_value ct_mux_value), sl_mux_value⟩)
    (c_mux_value : PySem.W.codeIn K cd_mux_value "mux_value" = true)
    (k_mux_value : PySem.W.keepIn K (.ref f_mux_value) = true)
    (a_law_parts : PySem.W.nsIn K mainGlobals "_law_parts" = some (some (.ref f_law_parts)))
    (l_law_parts : K.lookup f_law_parts = some ⟨oc_law_parts, od_law_parts, .func (PySem.W.fnOf "_law_parts" "_law_parts" (defArgs s_law_parts) (defBody s_law_parts) (defScope s_law_parts) .none kV_law_parts dc_law_parts pm_law_parts an_law_parts cd_law_parts ct_law_parts), sl_law_parts⟩)
    (c_law_parts : PySem.W.codeIn K cd_law_parts "_law_parts" = true)
    (k_law_parts : PySem.W.keepIn K (.ref f_law_parts) = true)
    (a_law_value : PySem.W.nsIn K mainGlobals "_law_value" = some (some (.ref f_law_value)))
    (l_law_value : K.lookup f_law_value = some ⟨oc_law_value, od_law_value, .func (PySem.W.fnOf "_law_value" "_law_value" (defArgs s_law_value) (defBody s_law_value) (defScope s_law_value) .none kV_law_value dc_law_value pm_law_value an_law_value cd_law_value ct_law_value), sl_law_value⟩)
    (c_law_value : PySem.W.codeIn K cd_law_value "_law_value" = true)
    (k_law_value : PySem.W.keepIn K (.ref f_law_value) = true)
    (a_law_bits : PySem.W.nsIn K mainGlobals "_law_bits" = some (some (.ref f_law_bits)))
    (l_law_bits : K.lookup f_law_bits = some ⟨oc_law_bits, od_law_bits, .func (PySem.W.fnOf "_law_bits" "_law_bits" (defArgs s_law_bits) (defBody s_law_bits) (defScope s_law_bits) .none kV_law_bits dc_law_bits pm_law_bits an_law_bits cd_law_bits ct_law_bits), sl_law_bits⟩)
    (c_law_bits : PySem.W.codeIn K cd_law_bits "_law_bits" = true)
    (k_law_bits : PySem.W.keepIn K (.ref f_law_bits) = true)
    (a_law_is_integer : PySem.W.nsIn K mainGlobals "_law_is_integer" = some (some (.ref f_law_is_integer)))
    (l_law_is_integer : K.lookup f_law_is_integer = some ⟨oc_law_is_integer, od_law_is_integer, .func (PySem.W.fnOf "_law_is_integer" "_law_is_integer" (defArgs s_law_is_integer) (defBody s_law_is_integer) (defScope s_law_is_integer) .none kV_law_is_integer dc_law_is_integer pm_law_is_integer an_law_is_integer cd_law_is_integer ct_law_is_integer), sl_law_is_integer⟩)
    (c_law_is_integer : PySem.W.codeIn K cd_law_is_integer "_law_is_integer" = true)
    (k_law_is_integer : PySem.W.keepIn K (.ref f_law_is_integer) = true)
    (a_law_counts : PySem.W.nsIn K mainGlobals "_law_counts" = some (some (.ref f_law_counts)))
    (l_law_counts : K.lookup f_law_counts = some ⟨oc_law_counts, od_law_counts, .func (PySem.W.fnOf "_law_counts" "_law_counts" (defArgs s_law_counts) (defBody s_law_counts) (defScope s_law_counts) .none kV_law_counts dc_law_counts pm_law_counts an_law_counts cd_law_counts ct_law_counts), sl_law_counts⟩)
    (c_law_counts : PySem.W.codeIn K cd_law_counts "_law_counts" = true)
    (k_law_counts : PySem.W.keepIn K (.ref f_law_counts) = true)
    (a_law_right_counts : PySem.W.nsIn K mainGlobals "_law_right_counts" = some (some (.ref f_law_right_counts)))
    (l_law_right_counts : K.lookup f_law_right_counts = some ⟨oc_law_right_counts, od_law_right_counts, .func (PySem.W.fnOf "_law_right_counts" "_law_right_counts" (defArgs s_law_right_counts) (defBody s_law_right_counts) (defScope s_law_right_counts) .none kV_law_right_counts dc_law_right_counts pm_law_right_counts an_law_right_counts cd_law_right_counts ct_law_right_counts), sl_law_right_counts⟩)
    (c_law_right_counts : PySem.W.codeIn K cd_law_right_counts "_law_right_counts" = true)
    (k_law_right_counts : PySem.W.keepIn K (.ref f_law_right_counts) = true)
    (a_law : PySem.W.nsIn K mainGlobals "law" = some (some (.ref f_law)))
    (l_law : K.lookup f_law = some ⟨oc_law, od_law, .func (PySem.W.fnOf "law" "law" (defArgs s_law) (defBody s_law) (defScope s_law) .none kV_law dc_law pm_law an_law cd_law ct_law), sl_law⟩)
    (c_law : PySem.W.codeIn K cd_law "law" = true)
    (k_law : PySem.W.keepIn K (.ref f_law) = true)
    (z_bool : PySem.W.nsIn K mainGlobals "bool" = some none)
    (z_int : PySem.W.nsIn K mainGlobals "int" = some none)
    (z_isinstance : PySem.W.nsIn K mainGlobals "isinstance" = some none)
    (z_len : PySem.W.nsIn K mainGlobals "len" = some none)
    (z_list : PySem.W.nsIn K mainGlobals "list" = some none)
    (z_max : PySem.W.nsIn K mainGlobals "max" = some none)
    (z_min : PySem.W.nsIn K mainGlobals "min" = some none)
    (z_range : PySem.W.nsIn K mainGlobals "range" = some none)
    (z_sum : PySem.W.nsIn K mainGlobals "sum" = some none)
    (z_tuple : PySem.W.nsIn K mainGlobals "tuple" = some none)
    (n_INPUT_COUNTS : PySem.W.nsIn K mainGlobals "INPUT_COUNTS" = some (some (.ref v_INPUT_COUNTS)))
    (ld_INPUT_COUNTS : K.lookup v_INPUT_COUNTS = some ⟨.type "dict", none, .dict es_INPUT_COUNTS m_INPUT_COUNTS, #[]⟩)
    (kk_INPUT_COUNTS : PySem.W.KeysLit w.params es_INPUT_COUNTS.toList)
    (e_INPUT_COUNTS_0 : PySem.W.nsIn K v_INPUT_COUNTS "not" = some (some (.ref q_INPUT_COUNTS_0)))
    (lt_INPUT_COUNTS_0 : K.lookup q_INPUT_COUNTS_0 = some ⟨.type "tuple", cd_INPUT_COUNTS_0, .seq #[.int 1 t_INPUT_COUNTS_0_0, .int 1 t_INPUT_COUNTS_0_1] cn_INPUT_COUNTS_0, cs_INPUT_COUNTS_0⟩)
    (e_INPUT_COUNTS_1 : PySem.W.nsIn K v_INPUT_COUNTS "and" = some (some (.ref q_INPUT_COUNTS_1)))
    (lt_INPUT_COUNTS_1 : K.lookup q_INPUT_COUNTS_1 = some ⟨.type "tuple", cd_INPUT_COUNTS_1, .seq #[.int 2 t_INPUT_COUNTS_1_0, .int 3 t_INPUT_COUNTS_1_1] cn_INPUT_COUNTS_1, cs_INPUT_COUNTS_1⟩)
    (e_INPUT_COUNTS_2 : PySem.W.nsIn K v_INPUT_COUNTS "or" = some (some (.ref q_INPUT_COUNTS_2)))
    (lt_INPUT_COUNTS_2 : K.lookup q_INPUT_COUNTS_2 = some ⟨.type "tuple", cd_INPUT_COUNTS_2, .seq #[.int 2 t_INPUT_COUNTS_2_0, .int 3 t_INPUT_COUNTS_2_1] cn_INPUT_COUNTS_2, cs_INPUT_COUNTS_2⟩)
    (e_INPUT_COUNTS_3 : PySem.W.nsIn K v_INPUT_COUNTS "nand" = some (some (.ref q_INPUT_COUNTS_3)))
    (lt_INPUT_COUNTS_3 : K.lookup q_INPUT_COUNTS_3 = some ⟨.type "tuple", cd_INPUT_COUNTS_3, .seq #[.int 2 t_INPUT_COUNTS_3_0, .int 3 t_INPUT_COUNTS_3_1] cn_INPUT_COUNTS_3, cs_INPUT_COUNTS_3⟩)
    (e_INPUT_COUNTS_4 : PySem.W.nsIn K v_INPUT_COUNTS "nor" = some (some (.ref q_INPUT_COUNTS_4)))
    (lt_INPUT_COUNTS_4 : K.lookup q_INPUT_COUNTS_4 = some ⟨.type "tuple", cd_INPUT_COUNTS_4, .seq #[.int 2 t_INPUT_COUNTS_4_0, .int 3 t_INPUT_COUNTS_4_1] cn_INPUT_COUNTS_4, cs_INPUT_COUNTS_4⟩)
    (e_INPUT_COUNTS_5 : PySem.W.nsIn K v_INPUT_COUNTS "xor" = some (some (.ref q_INPUT_COUNTS_5)))
    (lt_INPUT_COUNTS_5 : K.lookup q_INPUT_COUNTS_5 = some ⟨.type "tuple", cd_INPUT_COUNTS_5, .seq #[.int 2 t_INPUT_COUNTS_5_0, .int 2 t_INPUT_COUNTS_5_1] cn_INPUT_COUNTS_5, cs_INPUT_COUNTS_5⟩)
    (e_INPUT_COUNTS_6 : PySem.W.nsIn K v_INPUT_COUNTS "mux" = some (some (.ref q_INPUT_COUNTS_6)))
    (lt_INPUT_COUNTS_6 : K.lookup q_INPUT_COUNTS_6 = some ⟨.type "tuple", cd_INPUT_COUNTS_6, .seq #[.int 3 t_INPUT_COUNTS_6_0, .int 3 t_INPUT_COUNTS_6_1] cn_INPUT_COUNTS_6, cs_INPUT_COUNTS_6⟩)
    (e_INPUT_COUNTS_7 : PySem.W.nsIn K v_INPUT_COUNTS "zero" = some (some (.ref q_INPUT_COUNTS_7)))
    (lt_INPUT_COUNTS_7 : K.lookup q_INPUT_COUNTS_7 = some ⟨.type "tuple", cd_INPUT_COUNTS_7, .seq #[.int 0 t_INPUT_COUNTS_7_0, .int 0 t_INPUT_COUNTS_7_1] cn_INPUT_COUNTS_7, cs_INPUT_COUNTS_7⟩)
    (e_INPUT_COUNTS_8 : PySem.W.nsIn K v_INPUT_COUNTS "one" = some (some (.ref q_INPUT_COUNTS_8)))
    (lt_INPUT_COUNTS_8 : K.lookup q_INPUT_COUNTS_8 = some ⟨.type "tuple", cd_INPUT_COUNTS_8, .seq #[.int 0 t_INPUT_COUNTS_8_0, .int 0 t_INPUT_COUNTS_8_1] cn_INPUT_COUNTS_8, cs_INPUT_COUNTS_8⟩)
    (e_INPUT_COUNTS_9 : PySem.W.nsIn K v_INPUT_COUNTS "latch" = some (some (.ref q_INPUT_COUNTS_9)))
    (lt_INPUT_COUNTS_9 : K.lookup q_INPUT_COUNTS_9 = some ⟨.type "tuple", cd_INPUT_COUNTS_9, .seq #[.int 1 t_INPUT_COUNTS_9_0, .int 1 t_INPUT_COUNTS_9_1] cn_INPUT_COUNTS_9, cs_INPUT_COUNTS_9⟩)
    : ∃ fd : FuncData, (∀ (s : Shared) (v : Value), BindsTo s fd ⟨[v], []⟩ [("script", v)]) ∧ ∀ base : Heap, K.In base → base.Ns mainGlobals mg → FnOk l.prog w K mg base CX0 3 fa fd ["script"] (spLaw K) := by
  have e := hfa.symm.trans (PySem.W.mg_of X G a_law)
  cases e
  have F_input_counts := fun_mk (st := s_input_counts) l_input_counts c_input_counts k_input_counts
  have b_input_counts := F_input_counts.binds (ps := ["kind"]) fun _ _ _ _ _ _ us hl => match us, hl with | [_], _ => rfl
  have F_gate_value := fun_mk (st := s_gate_value) l_gate_value c_gate_value k_gate_value
  have b_gate_value := F_gate_value.binds (ps := ["kind", "values"]) fun _ _ _ _ _ _ us hl => match us, hl with | [_, _], _ => rfl
  have F_mux_value := fun_mk (st := s_mux_value) l_mux_value c_mux_value k_mux_value
  have b_mux_value := F_mux_value.binds (ps := ["s", "a", "b"]) fun _ _ _ _ _ _ us hl => match us, hl with | [_, _, _], _ => rfl
  have F_law_parts := fun_mk (st := s_law_parts) l_law_parts c_law_parts k_law_parts
  have b_law_parts := F_law_parts.binds (ps := ["cell", "sizes"]) fun _ _ _ _ _ _ us hl => match us, hl with | [_, _], _ => rfl
  have F_law_value := fun_mk (st := s_law_value) l_law_value c_law_value k_law_value
  have b_law_value := F_law_value.binds (ps := ["kind", "bits"]) fun _ _ _ _ _ _ us hl => match us, hl with | [_, _], _ => rfl
  have F_law_bits := fun_mk (st := s_law_bits) l_law_bits c_law_bits k_law_bits
  have b_law_bits := F_law_bits.binds (ps := ["number", "count"]) fun _ _ _ _ _ _ us hl => match us, hl with | [_, _], _ => rfl
  have F_law_is_integer := fun_mk (st := s_law_is_integer) l_law_is_integer c_law_is_integer k_law_is_integer
  have b_law_is_integer := F_law_is_integer.binds (ps := ["actual"]) fun _ _ _ _ _ _ us hl => match us, hl with | [_], _ => rfl
  have F_law_counts := fun_mk (st := s_law_counts) l_law_counts c_law_counts k_law_counts
  have b_law_counts := F_law_counts.binds (ps := ["kind"]) fun _ _ _ _ _ _ us hl => match us, hl with | [_], _ => rfl
  have F_law_right_counts := fun_mk (st := s_law_right_counts) l_law_right_counts c_law_right_counts k_law_right_counts
  have b_law_right_counts := F_law_right_counts.binds (ps := ["kind"]) fun _ _ _ _ _ _ us hl => match us, hl with | [_], _ => rfl
  have F_law := fun_mk (st := s_law) l_law c_law k_law
  have b_law := F_law.binds (ps := ["script"]) fun _ _ _ _ _ _ us hl => match us, hl with | [_], _ => rfl
  let a : A := { f_input_counts := f_input_counts, d_input_counts := PySem.W.fnOf "input_counts" "input_counts" (defArgs s_input_counts) (defBody s_input_counts) (defScope s_input_counts) .none kV_input_counts dc_input_counts pm_input_counts an_input_counts cd_input_counts ct_input_counts, f_gate_value := f_gate_value, d_gate_value := PySem.W.fnOf "gate_value" "gate_value" (defArgs s_gate_value) (defBody s_gate_value) (defScope s_gate_value) .none kV_gate_value dc_gate_value pm_gate_value an_gate_value cd_gate_value ct_gate_value, f_mux_value := f_mux_value, d_mux_value := PySem.W.fnOf "mux_value" "mux_value" (defArgs s_mux_value) (defBody s_mux_value) (defScope s_mux_value) .none kV_mux_value dc_mux_value pm_mux_value an_mux_value cd_mux_value ct_mux_value, f_law_parts := f_law_parts, d_law_parts := PySem.W.fnOf "_law_parts" "_law_parts" (defArgs s_law_parts) (defBody s_law_parts) (defScope s_law_parts) .none kV_law_parts dc_law_parts pm_law_parts an_law_parts cd_law_parts ct_law_parts, f_law_value := f_law_value, d_law_value := PySem.W.fnOf "_law_value" "_law_value" (defArgs s_law_value) (defBody s_law_value) (defScope s_law_value) .none kV_law_value dc_law_value pm_law_value an_law_value cd_law_value ct_law_value, f_law_bits := f_law_bits, d_law_bits := PySem.W.fnOf "_law_bits" "_law_bits" (defArgs s_law_bits) (defBody s_law_bits) (defScope s_law_bits) .none kV_law_bits dc_law_bits pm_law_bits an_law_bits cd_law_bits ct_law_bits, f_law_is_integer := f_law_is_integer, d_law_is_integer := PySem.W.fnOf "_law_is_integer" "_law_is_integer" (defArgs s_law_is_integer) (defBody s_law_is_integer) (defScope s_law_is_integer) .none kV_law_is_integer dc_law_is_integer pm_law_is_integer an_law_is_integer cd_law_is_integer ct_law_is_integer, f_law_counts := f_law_counts, d_law_counts := PySem.W.fnOf "_law_counts" "_law_counts" (defArgs s_law_counts) (defBody s_law_counts) (defScope s_law_counts) .none kV_law_counts dc_law_counts pm_law_counts an_law_counts cd_law_counts ct_law_counts, f_law_right_counts := f_law_right_counts, d_law_right_counts := PySem.W.fnOf "_law_right_counts" "_law_right_counts" (defArgs s_law_right_counts) (defBody s_law_right_counts) (defScope s_law_right_counts) .none kV_law_right_counts dc_law_right_counts pm_law_right_counts an_law_right_counts cd_law_right_counts ct_law_right_counts, f_law := fa, d_law := PySem.W.fnOf "law" "law" (defArgs s_law) (defBody s_law) (defScope s_law) .none kV_law dc_law pm_law an_law cd_law ct_law, v_INPUT_COUNTS := v_INPUT_COUNTS, q_INPUT_COUNTS_0 := q_INPUT_COUNTS_0, q_INPUT_COUNTS_1 := q_INPUT_COUNTS_1, q_INPUT_COUNTS_2 := q_INPUT_COUNTS_2, q_INPUT_COUNTS_3 := q_INPUT_COUNTS_3, q_INPUT_COUNTS_4 := q_INPUT_COUNTS_4, q_INPUT_COUNTS_5 := q_INPUT_COUNTS_5, q_INPUT_COUNTS_6 := q_INPUT_COUNTS_6, q_INPUT_COUNTS_7 := q_INPUT_COUNTS_7, q_INPUT_COUNTS_8 := q_INPUT_COUNTS_8, q_INPUT_COUNTS_9 := q_INPUT_COUNTS_9 }
  have T : Top K mg w a := { F_input_counts := F_input_counts, b_input_counts := b_input_counts, g_input_counts := PySem.W.mg_of X G a_input_counts, F_gate_value := F_gate_value, b_gate_value := b_gate_value, g_gate_value := PySem.W.mg_of X G a_gate_value, F_mux_value := F_mux_value, b_mux_value := b_mux_value, g_mux_value := PySem.W.mg_of X G a_mux_value, F_law_parts := F_law_parts, b_law_parts := b_law_parts, g_law_parts := PySem.W.mg_of X G a_law_parts, F_law_value := F_law_value, b_law_value := b_law_value, g_law_value := PySem.W.mg_of X G a_law_value, F_law_bits := F_law_bits, b_law_bits := b_law_bits, g_law_bits := PySem.W.mg_of X G a_law_bits, F_law_is_integer := F_law_is_integer, b_law_is_integer := b_law_is_integer, g_law_is_integer := PySem.W.mg_of X G a_law_is_integer, F_law_counts := F_law_counts, b_law_counts := b_law_counts, g_law_counts := PySem.W.mg_of X G a_law_counts, F_law_right_counts := F_law_right_counts, b_law_right_counts := b_law_right_counts, g_law_right_counts := PySem.W.mg_of X G a_law_right_counts, F_law := F_law, b_law := b_law, g_law := PySem.W.mg_of X G a_law, z_bool := PySem.W.mg_none_of X G z_bool, z_int := PySem.W.mg_none_of X G z_int, z_isinstance := PySem.W.mg_none_of X G z_isinstance, z_len := PySem.W.mg_none_of X G z_len, z_list := PySem.W.mg_none_of X G z_list, z_max := PySem.W.mg_none_of X G z_max, z_min := PySem.W.mg_none_of X G z_min, z_range := PySem.W.mg_none_of X G z_range, z_sum := PySem.W.mg_none_of X G z_sum, z_tuple := PySem.W.mg_none_of X G z_tuple, c_INPUT_COUNTS := PySem.W.mg_of X G n_INPUT_COUNTS, e_INPUT_COUNTS_0 := ⟨_, _, _, ld_INPUT_COUNTS, kk_INPUT_COUNTS, e_INPUT_COUNTS_0, rfl⟩, s_INPUT_COUNTS_0 := fun H => Or.inr ⟨_, _, _, lt_INPUT_COUNTS_0, rfl, rfl, (by show 2 ≤ sizeLine; decide), (.cons ⟨_, rfl⟩ (.cons ⟨_, rfl⟩ (.nil)))⟩, e_INPUT_COUNTS_1 := ⟨_, _, _, ld_INPUT_COUNTS, kk_INPUT_COUNTS, e_INPUT_COUNTS_1, rfl⟩, s_INPUT_COUNTS_1 := fun H => Or.inr ⟨_, _, _, lt_INPUT_COUNTS_1, rfl, rfl, (by show 2 ≤ sizeLine; decide), (.cons ⟨_, rfl⟩ (.cons ⟨_, rfl⟩ (.nil)))⟩, e_INPUT_COUNTS_2 := ⟨_, _, _, ld_INPUT_COUNTS, kk_INPUT_COUNTS, e_INPUT_COUNTS_2, rfl⟩, s_INPUT_COUNTS_2 := fun H => Or.inr ⟨_, _, _, lt_INPUT_COUNTS_2, rfl, rfl, (by show 2 ≤ sizeLine; decide), (.cons ⟨_, rfl⟩ (.cons ⟨_, rfl⟩ (.nil)))⟩, e_INPUT_COUNTS_3 := ⟨_, _, _, ld_INPUT_COUNTS, kk_INPUT_COUNTS, e_INPUT_COUNTS_3, rfl⟩, s_INPUT_COUNTS_3 := fun H => Or.inr ⟨_, _, _, lt_INPUT_COUNTS_3, rfl, rfl, (by show 2 ≤ sizeLine; decide), (.cons ⟨_, rfl⟩ (.cons ⟨_, rfl⟩ (.nil)))⟩, e_INPUT_COUNTS_4 := ⟨_, _, _, ld_INPUT_COUNTS, kk_INPUT_COUNTS, e_INPUT_COUNTS_4, rfl⟩, s_INPUT_COUNTS_4 := fun H => Or.inr ⟨_, _, _, lt_INPUT_COUNTS_4, rfl, rfl, (by show 2 ≤ sizeLine; decide), (.cons ⟨_, rfl⟩ (.cons ⟨_, rfl⟩ (.nil)))⟩, e_INPUT_COUNTS_5 := ⟨_, _, _, ld_INPUT_COUNTS, kk_INPUT_COUNTS, e_INPUT_COUNTS_5, rfl⟩, s_INPUT_COUNTS_5 := fun H => Or.inr ⟨_, _, _, lt_INPUT_COUNTS_5, rfl, rfl, (by show 2 ≤ sizeLine; decide), (.cons ⟨_, rfl⟩ (.cons ⟨_, rfl⟩ (.nil)))⟩, e_INPUT_COUNTS_6 := ⟨_, _, _, ld_INPUT_COUNTS, kk_INPUT_COUNTS, e_INPUT_COUNTS_6, rfl⟩, s_INPUT_COUNTS_6 := fun H => Or.inr ⟨_, _, _, lt_INPUT_COUNTS_6, rfl, rfl, (by show 2 ≤ sizeLine; decide), (.cons ⟨_, rfl⟩ (.cons ⟨_, rfl⟩ (.nil)))⟩, e_INPUT_COUNTS_7 := ⟨_, _, _, ld_INPUT_COUNTS, kk_INPUT_COUNTS, e_INPUT_COUNTS_7, rfl⟩, s_INPUT_COUNTS_7 := fun H => Or.inr ⟨_, _, _, lt_INPUT_COUNTS_7, rfl, rfl, (by show 2 ≤ sizeLine; decide), (.cons ⟨_, rfl⟩ (.cons ⟨_, rfl⟩ (.nil)))⟩, e_INPUT_COUNTS_8 := ⟨_, _, _, ld_INPUT_COUNTS, kk_INPUT_COUNTS, e_INPUT_COUNTS_8, rfl⟩, s_INPUT_COUNTS_8 := fun H => Or.inr ⟨_, _, _, lt_INPUT_COUNTS_8, rfl, rfl, (by show 2 ≤ sizeLine; decide), (.cons ⟨_, rfl⟩ (.cons ⟨_, rfl⟩ (.nil)))⟩, e_INPUT_COUNTS_9 := ⟨_, _, _, ld_INPUT_COUNTS, kk_INPUT_COUNTS, e_INPUT_COUNTS_9, rfl⟩, s_INPUT_COUNTS_9 := fun H => Or.inr ⟨_, _, _, lt_INPUT_COUNTS_9, rfl, rfl, (by show 2 ≤ sizeLine; decide), (.cons ⟨_, rfl⟩ (.cons ⟨_, rfl⟩ (.nil)))⟩ }
  exact ⟨_, fun s v => .of_eq rfl, fun base _ _ => ok_law T⟩
theorem walk {l : PySem.W.OpenLaw} {q : Program} {loose : List Str} {XP : (Str → Option Value) → Heap → Prop} {YP : World → Heap → Prop} {d : DefRec} {K : Params → PySem.W.Frag} (hn : l.most = some 63) (hdf : d.params.defaults = [])
    (hY : ∀ (w : World) (h : Heap), YP w h → (K w.params).In h)
    (F : ∀ (w : World) (mg : Str → Option Value) (fa : Addr) (h : Heap), (K w.params).In h → h.Ns mainGlobals mg → mg d.name = some (.ref fa) →
      ∃ fd : FuncData, (∀ (s : Shared) (u : Value), BindsTo s fd ⟨[u], []⟩ [("script", u)]) ∧ ∀ base : Heap, (K w.params).In base → base.Ns mainGlobals mg → FnOk l.prog w (K w.params) mg base CX0 3 fa fd ["script"] (spLaw (K w.params))) :
    PySem.W.WalkO q loose XP YP l.row.toRowW d [] (fun f vs => PySem.call f vs) :=
  L2.walk_of (n := 63) (k := 3) (x := "script") (CX := fun _ => CX0) (sp := fun w => spLaw (K w.params)) hn (by decide) hdf ⟨rfl, by decide, by decide⟩ hY F (fun _ _ a ns hl _ hS => ⟨a, ns, rfl, hS, hl, fun _ => rfl⟩) fun _ _ _ _ _ z => z
end GR

open PySem PySem.W PyProof.Rows in
set_option maxRecDepth 100000 in
set_option maxHeartbeats 0 in
theorem PySem.Challenge.cw_gatesread_k02_gate_value_holds : PySem.Challenge.rw_gatesread_k02_gate_value.Holds := by
  w_on; o_law; k_head; (case hw => w_witness2)
  k_fill
  refine GR.walk (l := PySem.Challenge.rw_gatesread_k02_gate_value) rfl rfl (fun w h Y => PySem.W.kIn_of Y) ?F
  case F =>
    intro w mg fa h KX G hmg
    refine' GR.all_mk KX G hmg ?a_input_counts ?l_input_counts ?c_input_counts ?k_input_counts ?a_gate_value ?l_gate_value ?c_gate_value ?k_gate_value ?a_mux_value ?l_mux_value ?c_mux_value ?k_mux_value ?a_law_parts ?l_law_parts ?c_law_parts ?k_law_parts ?a_law_value ?l_law_value ?c_law_value ?k_law_value ?a_law_bits ?l_law_bits ?c_law_bits ?k_law_bits ?a_law_is_integer ?l_law_is_integer ?c_law_is_integer ?k_law_is_integer ?a_law_counts ?l_law_counts ?c_law_counts ?k_law_counts ?a_law_right_counts ?l_law_right_counts ?c_law_right_counts ?k_law_right_counts ?a_law ?l_law ?c_law ?k_law ?z_bool ?z_int ?z_isinstance ?z_len ?z_list ?z_max ?z_min ?z_range ?z_sum ?z_tuple ?n_INPUT_COUNTS ?ld_INPUT_COUNTS ?kk_INPUT_COUNTS ?e_INPUT_COUNTS_0 ?lt_INPUT_COUNTS_0 ?e_INPUT_COUNTS_1 ?lt_INPUT_COUNTS_1 ?e_INPUT_COUNTS_2 ?lt_INPUT_COUNTS_2 ?e_INPUT_COUNTS_3 ?lt_INPUT_COUNTS_3 ?e_INPUT_COUNTS_4 ?lt_INPUT_COUNTS_4 ?e_INPUT_COUNTS_5 ?lt_INPUT_COUNTS_5 ?e_INPUT_COUNTS_6 ?lt_INPUT_COUNTS_6 ?e_INPUT_COUNTS_7 ?lt_INPUT_COUNTS_7 ?e_INPUT_COUNTS_8 ?lt_INPUT_COUNTS_8 ?e_INPUT_COUNTS_9 ?lt_INPUT_COUNTS_9
    (case a_input_counts => k_is)
    (case l_input_counts => k_is)
    (case c_input_counts => k_is)
    (case k_input_counts => k_is)
    (case a_gate_value => k_is)
    (case l_gate_value => k_is)
    (case c_gate_value => k_is)
    (case k_gate_value => k_is)
    (case a_mux_value => k_is)
    (case l_mux_value => k_is)
    (case c_mux_value => k_is)
    (case k_mux_value => k_is)
    (case a_law_parts => k_is)
    (case l_law_parts => k_is)
    (case c_law_parts => k_is)
    (case k_law_parts => k_is)
    (case a_law_value => k_is)
    (case l_law_value => k_is)
    (case c_law_value => k_is)
    (case k_law_value => k_is)
    (case a_law_bits => k_is)
    (case l_law_bits => k_is)
    (case c_law_bits => k_is)
    (case k_law_bits => k_is)
    (case a_law_is_integer => k_is)
    (case l_law_is_integer => k_is)
    (case c_law_is_integer => k_is)
    (case k_law_is_integer => k_is)
    (case a_law_counts => k_is)
    (case l_law_counts => k_is)
    (case c_law_counts => k_is)
    (case k_law_counts => k_is)
    (case a_law_right_counts => k_is)
    (case l_law_right_counts => k_is)
    (case c_law_right_counts => k_is)
    (case k_law_right_counts => k_is)
    (case a_law => k_is)
    (case l_law => k_is)
    (case c_law => k_is)
    (case k_law => k_is)
    (case z_bool => k_is)
    (case z_int => k_is)
    (case z_isinstance => k_is)
    (case z_len => k_is)
    (case z_list => k_is)
    (case z_max => k_is)
    (case z_min => k_is)
    (case z_range => k_is)
    (case z_sum => k_is)
    (case z_tuple => k_is)
    (case n_INPUT_COUNTS => k_is)
    (case ld_INPUT_COUNTS => k_is)
    (case kk_INPUT_COUNTS => k_keys)
    (case e_INPUT_COUNTS_0 => k_is)
    (case lt_INPUT_COUNTS_0 => k_is)
    (case e_INPUT_COUNTS_1 => k_is)
    (case lt_INPUT_COUNTS_1 => k_is)
    (case e_INPUT_COUNTS_2 => k_is)
    (case lt_INPUT_COUNTS_2 => k_is)
    (case e_INPUT_COUNTS_3 => k_is)
    (case lt_INPUT_COUNTS_3 => k_is)
    (case e_INPUT_COUNTS_4 => k_is)
    (case lt_INPUT_COUNTS_4 => k_is)
    (case e_INPUT_COUNTS_5 => k_is)
    (case lt_INPUT_COUNTS_5 => k_is)
    (case e_INPUT_COUNTS_6 => k_is)
    (case lt_INPUT_COUNTS_6 => k_is)
    (case e_INPUT_COUNTS_7 => k_is)
    (case lt_INPUT_COUNTS_7 => k_is)
    (case e_INPUT_COUNTS_8 => k_is)
    (case lt_INPUT_COUNTS_8 => k_is)
    (case e_INPUT_COUNTS_9 => k_is)
    (case lt_INPUT_COUNTS_9 => k_is)
