import PyProof.Rows.All
import Wide.All
import OpenK.AllK
import Wide.FinOn
import HandS.ForMost
import HandS.Evl
import HandS.Steps
import HandS.IsInst
import HandS.Wide
import HandS.Deep
import HandS.More
import PySem.Challenge.RW_gatesread_k13_cell_value
set_option Elab.async false
set_option linter.all false
set_option maxRecDepth 100000
set_option maxHeartbeats 4000000

namespace GR
open PySem PySem.Spec PyProof.Rows L2 Evl

/-! ### the known heap G: all that is known stands at G, the heap at hand extends it -/
theorem ex_upd {G H : Hp} (e : Ex G H) (l : Addr) (o : HO) : Ex (upd G l o) (upd H l o) := fun a u h => by
  by_cases q : a = l
  · subst q
    rw [upd_same] at h ⊢
    exact h
  · rw [upd_ne q] at h ⊢
    exact e a u h
theorem ex_to {G H : Hp} {p : Addr} {o : HO} (e : Ex G H) (h : H p = some o) : Ex (upd G p o) H := fun a u g => by
  by_cases q : a = p
  · subst q
    rw [upd_same] at g
    rw [h]
    exact g
  · rw [upd_ne q] at g
    exact e a u g
section
variable {K : PySem.W.Frag} {σ : L2.St} {G H H' : Hp} {ta tb te tx : TE} {t u : TT} {x y z v : V} {D : Ends} {tu tw tz : TS} {g : TG}
/-- x = e, the rest -/
theorem a_set {i : Nat} (e : Ex G H) (h : Ev te σ G v) (k : ∀ H1, Ex G H1 → tz D (σ.set i (some v)) H1) : tSeq (tAsg te (gName i)) tz D σ H :=
  h H e _ fun H1 e1 => k H1 (e.trans e1)
theorem a_setL {i : Nat} {xs : List V} (e : Ex G H) (h : EvL te σ G xs) (k : ∀ p H1, G p = none → Ex (upd G p (.lst xs)) H1 → tz D (σ.set i (some (.ref p))) H1) : tSeq (tAsg te (gName i)) tz D σ H :=
  h H e _ fun p H1 hp e1 h1 => k p H1 (fresh_back e hp) (ex_to (e.trans e1) h1)
theorem a_setU {i : Nat} {xs : List V} (e : Ex G H) (h : EvU te σ G xs) (k : ∀ p H1, G p = none → Ex (upd G p (.tup xs)) H1 → tz D (σ.set i (some (.ref p))) H1) : tSeq (tAsg te (gName i)) tz D σ H :=
  h H e _ fun p H1 hp e1 h1 => k p H1 (fresh_back e hp) (ex_to (e.trans e1) h1)
/-- if -/
theorem a_if {b : Bool} (e : Ex G H) (h : EvT t σ G b) (h1 : b = true → ∀ H1, Ex G H1 → tu D σ H1) (h2 : b = false → ∀ H1, Ex G H1 → tw D σ H1) : tIfS t tu tw D σ H :=
  h H e _ fun H1 e1 => by
    cases b with
    | true => exact h1 rfl H1 (e.trans e1)
    | false => exact h2 rfl H1 (e.trans e1)
theorem a_ifq {b : Bool} (e : Ex G H) (h : EvT t σ G b) (h1 : b = true → ∀ H1, Ex G H1 → tu { D with nx := tz D } σ H1) (h2 : b = false → ∀ H1, Ex G H1 → tw { D with nx := tz D } σ H1) : tSeq (tIfS t tu tw) tz D σ H :=
  a_if (D := { D with nx := tz D }) e h h1 h2
/-- an if without else -/
theorem a_when {b : Bool} (e : Ex G H) (h : EvT t σ G b) (h1 : b = true → ∀ H1, Ex G H1 → tu { D with nx := tz D } σ H1) (h2 : b = false → ∀ H1, Ex G H1 → tz D σ H1) : tSeq (tIfS t tu tNext) tz D σ H :=
  a_if (D := { D with nx := tz D }) e h h1 h2
theorem a_when1 {b : Bool} (e : Ex G H) (h : EvT t σ G b) (h1 : b = true → ∀ H1, Ex G H1 → tu D σ H1) (h2 : b = false → ∀ H1, Ex G H1 → D.nx σ H1) : tIfS t tu tNext D σ H :=
  a_if e h h1 h2
theorem a_ret (e : Ex G H) (h : Ev te σ G v) (k : ∀ H1, Ex G H1 → D.rt v H1) : tRet te D σ H := h H e _ fun H1 e1 => k H1 (e.trans e1)
theorem a_retL {xs : List V} (e : Ex G H) (h : EvL te σ G xs) (k : ∀ p H1, G p = none → Ex G H1 → H1 p = some (.lst xs) → D.rt (.ref p) H1) : tRet te D σ H :=
  h H e _ fun p H1 hp e1 h1 => k p H1 (fresh_back e hp) (e.trans e1) h1
theorem a_retU {xs : List V} (e : Ex G H) (h : EvU te σ G xs) (k : ∀ p H1, G p = none → Ex G H1 → H1 p = some (.tup xs) → D.rt (.ref p) H1) : tRet te D σ H :=
  h H e _ fun p H1 hp e1 h1 => k p H1 (fresh_back e hp) (e.trans e1) h1
/-- xs.append(e), the rest -/
theorem a_app {l : Addr} {xs : List V} (e : Ex G H) (ha : Ev ta σ G (.ref l)) (hl : G l = some (.lst xs)) (h : Ev te σ G v) (hz : xs.length < 100000) (k : ∀ H1, Ex (upd G l (.lst (xs ++ [v]))) H1 → tz D σ H1) :
    tSeq (tDrop (tBM K "list" rAppend ta (tCons te tNil))) tz D σ H :=
  ha H e _ fun H1 e1 => ⟨Or.inl ⟨rfl, xs, sq_of (e1 l _ (e l _ hl))⟩, h H1 (e.trans e1) _ fun H2 e2 => ⟨l, xs, v, rfl, rfl, e2 l _ (e1 l _ (e l _ hl)), sz_lt hz, k _ (ex_upd ((e.trans e1).trans e2) l _)⟩⟩
theorem a_app1 {l : Addr} {xs : List V} (e : Ex G H) (ha : Ev ta σ G (.ref l)) (hl : G l = some (.lst xs)) (h : Ev te σ G v) (hz : xs.length < 100000) (k : ∀ H1, Ex (upd G l (.lst (xs ++ [v]))) H1 → D.nx σ H1) :
    tDrop (tBM K "list" rAppend ta (tCons te tNil)) D σ H :=
  ha H e _ fun H1 e1 => ⟨Or.inl ⟨rfl, xs, sq_of (e1 l _ (e l _ hl))⟩, h H1 (e.trans e1) _ fun H2 e2 => ⟨l, xs, v, rfl, rfl, e2 l _ (e1 l _ (e l _ hl)), sz_lt hz, k _ (ex_upd ((e.trans e1).trans e2) l _)⟩⟩
theorem a_set1 {i : Nat} (e : Ex G H) (h : Ev te σ G v) (k : ∀ H1, Ex G H1 → D.nx (σ.set i (some v)) H1) : tAsg te (gName i) D σ H :=
  h H e _ fun H1 e1 => k H1 (e.trans e1)
/-- for i in range(n) -/
theorem a_forR {ta : TA} {j : Nat} {n : Int} (e : Ex G H) (h : EvA ta σ G [.int n]) (hn : 0 ≤ n ∧ n ≤ 100000) (Pv : Nat → L2.St → Hp → Prop) (h0 : ∀ H1, Ex G H1 → Pv 0 σ H1)
    (hs : ∀ (i : Nat) σ' H', (i : Int) < n → Pv i σ' H' → tu { D with nx := Pv (i + 1), ct := Pv (i + 1), bk := tz D } (σ'.set j (some (.int (i : Int)))) H') (hd : ∀ σ' H', Pv n.toNat σ' H' → tz D σ' H') : tSeq (tFor (iRng1 ta) (gName j) tu) tz D σ H :=
  s_forR1 (D := { D with nx := tz D }) (fun H1 e1 => h H1 (e.trans e1)) hn Pv (fun H1 e1 => h0 H1 (e.trans e1)) hs hd
end
end GR
namespace GR
open PySem PySem.Spec PyProof.Rows L2 Evl
section
variable {K : PySem.W.Frag} {σ : L2.St} {G H H' : Hp} {ta tb te tx : TE} {t u : TT} {x y z v : V} {D : Ends} {tu tw tz : TS} {g : TG}
/-- int(n) -/
theorem ev_int1 {i : Int} (h : Ev ta σ G (.int i)) : Ev (tCB (fun xs H Q => (∃ i, xs = [V.int i] ∧ Q (.int i) H) ∨ ∃ k, xs = [V.bl k] ∧ Q (.int (if k then 1 else 0)) H) (tCons ta tNil)) σ G (.int i) := fun H1 e Q q =>
  h H1 e _ fun H2 e2 => Or.inl ⟨i, rfl, q H2 e2⟩
theorem ev_int1b {b : Bool} (h : Ev ta σ G (.bl b)) : Ev (tCB (fun xs H Q => (∃ i, xs = [V.int i] ∧ Q (.int i) H) ∨ ∃ k, xs = [V.bl k] ∧ Q (.int (if k then 1 else 0)) H) (tCons ta tNil)) σ G (.int (if b then 1 else 0)) := fun H1 e Q q =>
  h H1 e _ fun H2 e2 => Or.inr ⟨b, rfl, q H2 e2⟩
theorem ev_lenS {p : Addr} {xs : List V} (ha : Ev ta σ G (.ref p)) (h : SqL K G p xs) : Ev (tCB (fun xs H Q => ∃ p ys, xs = [V.ref p] ∧ (SqL K H p ys ∨ SqT K H p ys) ∧ Q (.int ys.length) H) (tCons ta tNil)) σ G (.int (xs.length : Int)) := fun H1 e Q q =>
  ha H1 e _ fun H2 e2 => ⟨p, xs, rfl, Or.inl (ex_l (e.trans e2) h), q H2 e2⟩
theorem ev_lenT {p : Addr} {xs : List V} (ha : Ev ta σ G (.ref p)) (h : SqT K G p xs) : Ev (tCB (fun xs H Q => ∃ p ys, xs = [V.ref p] ∧ (SqL K H p ys ∨ SqT K H p ys) ∧ Q (.int ys.length) H) (tCons ta tNil)) σ G (.int (xs.length : Int)) := fun H1 e Q q =>
  ha H1 e _ fun H2 e2 => ⟨p, xs, rfl, Or.inr (ex_t (e.trans e2) h), q H2 e2⟩
theorem hu64 {A : Around} {k : Nat} (hr : Room k A) : A.units + 64 < cLine := hr.units
theorem pe_const {X : Cx} {x : Str} {v : V} {pos : Pos} (hg : Gl X x) (h : ∃ u, X.mg x = some u ∧ RelV v u) (hd : (x == ("__debug__" : Str)) = false := by decide) : PE X (.Name x pos) (tC v) := by
  obtain ⟨u, hm, r⟩ := h
  exact pe_glob hg hm r hd
end
/-- drawn numbers -/
structure Draw (ns sizes : List Int) : Prop where
  len : ns.length = sizes.length
  at_ : ∀ k, k < sizes.length → 0 ≤ ns.getD k 0 ∧ ns.getD k 0 < sizes.getD k 0
/-- the k-th cell of the script -/
def cellOf (ns : List Int) (k : Nat) : Int := ns.getD k 0
theorem at_map {ns : List Int} {k : Nat} (h : k < ns.length) : atI (ns.map V.int) (k : Int) = some (.int (ns.getD k 0)) := by
  have e : (ns.map V.int)[k]? = some (.int (ns.getD k 0)) := by
    rw [List.getElem?_map, List.getElem?_eq_getElem h, List.getD_eq_getElem?_getD, List.getElem?_eq_getElem h]
    rfl
  exact atI_nat e
end GR
namespace GR
open PySem PySem.Spec PyProof.Rows L2 Evl
section
variable {K : PySem.W.Frag} {σ : L2.St} {G H H' : Hp} {ta tb tc te tx : TE} {t u : TT} {x y z v : V} {D : Ends} {tu tw tz : TS} {g : TG}
/-- isinstance(x, T) -/
theorem ev_isi {c : V} {ty un : Value} {b : Bool} (h : Ev ta σ G x) (hc : Ev tb σ G c) (cv : ClsV c un) (hk : PySem.W.kitOne K ty un = some b) (ht : ∀ H1, Ex G H1 → TyX K H1 x ty) : Ev (tCB (rIsi K) (tCons ta (tCons tb tNil))) σ G (.bl b) := fun H1 e Q q =>
  h H1 e _ fun H2 e2 => hc H2 (e.trans e2) _ fun H3 e3 => ⟨x, c, ty, un, b, rfl, cv, ht H3 ((e.trans e2).trans e3), hk, q H3 (e2.trans e3)⟩
theorem ev_isiInt {i : Int} (h : Ev ta σ G (.int i)) : Ev (tCB (rIsi K) (tCons ta (tCons (tC (.ty "int")) tNil))) σ G (.bl true) := ev_isi h ev_c (.ty _) (kit_ty (by decide +kernel)) fun _ _ => .base (.int i)
theorem ev_isiIntB {i : Int} (h : Ev ta σ G (.int i)) : Ev (tCB (rIsi K) (tCons ta (tCons (tC (.ty "bool")) tNil))) σ G (.bl false) := ev_isi h ev_c (.ty _) (kit_ty (by decide +kernel)) fun _ _ => .base (.int i)
theorem ev_isiBl {i : Bool} (h : Ev ta σ G (.bl i)) : Ev (tCB (rIsi K) (tCons ta (tCons (tC (.ty "bool")) tNil))) σ G (.bl true) := ev_isi h ev_c (.ty _) (kit_ty (by decide +kernel)) fun _ _ => .base (.bl i)
theorem ev_isiStr {i : Str} (h : Ev ta σ G (.str i)) : Ev (tCB (rIsi K) (tCons ta (tCons (tC (.ty "str")) tNil))) σ G (.bl true) := ev_isi h ev_c (.ty _) (kit_ty (by decide +kernel)) fun _ _ => .base (.str i)
theorem ev_isiLst {p : Addr} {xs : List V} (h : Ev ta σ G (.ref p)) (hl : G p = some (.lst xs)) : Ev (tCB (rIsi K) (tCons ta (tCons (tC (.ty "list")) tNil))) σ G (.bl true) := ev_isi h ev_c (.ty _) (kit_ty (by decide +kernel)) fun _ e => .base (.lst (e _ _ hl))
theorem ev_isiTup {p : Addr} {xs : List V} (h : Ev ta σ G (.ref p)) (hl : G p = some (.tup xs)) : Ev (tCB (rIsi K) (tCons ta (tCons (tC (.ty "tuple")) tNil))) σ G (.bl true) := ev_isi h ev_c (.ty _) (kit_ty (by decide +kernel)) fun _ e => .base (.tup (e _ _ hl))
theorem tyx_tup {p : Addr} {xs : List V} (h : SqT K G p xs) : ∀ H1, Ex G H1 → TyX K H1 (.ref p) (.type "tuple") := fun H1 e => by
  rcases h with (h | ⟨o, h⟩) | ⟨o, its, n, h1, h2, _⟩
  · exact .base (.tup (e _ _ h))
  · exact .fTuple (e _ _ h)
  · exact .kTuple h1 h2
theorem ev_isiTupS {p : Addr} {xs : List V} (h : Ev ta σ G (.ref p)) (hl : SqT K G p xs) : Ev (tCB (rIsi K) (tCons ta (tCons (tC (.ty "tuple")) tNil))) σ G (.bl true) := ev_isi h ev_c (.ty _) (kit_ty (by decide +kernel)) (tyx_tup hl)
/-- sum, max, min of a list of ints -/
theorem ev_sum {p : Addr} {ns : List Int} (h : Ev ta σ G (.ref p)) (hs : SqL K G p (ns.map V.int)) : Ev (tCB (rSum K) (tCons ta tNil)) σ G (.int ns.sum) := fun H1 e Q q =>
  h H1 e _ fun H2 e2 => ⟨p, ns, rfl, ex_l (e.trans e2) hs, q H2 e2⟩
theorem ev_max {p : Addr} {ns : List Int} {m : Int} (h : Ev ta σ G (.ref p)) (hs : SqL K G p (ns.map V.int)) (hm : m ∈ ns) (hx : ∀ y, y ∈ ns → y ≤ m) : Ev (tCB (rMax K) (tCons ta tNil)) σ G (.int m) := fun H1 e Q q =>
  h H1 e _ fun H2 e2 => ⟨p, ns, rfl, ex_l (e.trans e2) hs, List.length_pos_of_mem hm, fun m' h1 h2 => by
    have e3 : m' = m := Int.le_antisymm (hx _ h1) (h2 _ hm)
    rw [e3]
    exact q H2 e2⟩
theorem ev_min {p : Addr} {ns : List Int} {m : Int} (h : Ev ta σ G (.ref p)) (hs : SqL K G p (ns.map V.int)) (hm : m ∈ ns) (hx : ∀ y, y ∈ ns → m ≤ y) : Ev (tCB (rMin K) (tCons ta tNil)) σ G (.int m) := fun H1 e Q q =>
  h H1 e _ fun H2 e2 => ⟨p, ns, rfl, ex_l (e.trans e2) hs, List.length_pos_of_mem hm, fun m' h1 h2 => by
    have e3 : m' = m := Int.le_antisymm (h2 _ hm) (hx _ h1)
    rw [e3]
    exact q H2 e2⟩
/-- a slice of a text -/
theorem ev_slS {tl th : TO} {w : Str} {lo hi : Option Int} (h : Ev te σ G (.str w)) (h1 : EvO tl σ G lo) (h2 : EvO th σ G hi) (hz : w.length ≤ 100000) : Ev (tSl rSlS te tl th) σ G (.str (cutS w lo hi)) := fun H1 e Q q =>
  h H1 e _ fun H2 e2 => h1 H2 (e.trans e2) _ fun H3 e3 => h2 H3 ((e.trans e2).trans e3) _ fun H4 e4 => ⟨w, rfl, sz_of hz, q H4 ((e2.trans e3).trans e4)⟩
/-- d[k], d a dict of the module -/
theorem rv_kd {w : World} {p : Addr} {k : Str} (h : KDct K w p k v) : RV (rIxD K w) (.ref p) (.str k) G v := fun H1 _ _ q => ⟨p, k, v, rfl, rfl, h, q H1 (Ex.refl H1)⟩
/-- == of data -/
theorem dp_mono {G H : Hp} (e : Ex G H) : ∀ {v : V} {d : PyData}, Dp K G v d → Dp K H v d := by
  intro v d h
  refine Dp.rec (motive_1 := fun v d _ => Dp K H v d) (motive_2 := fun vs ds _ => DpAll K H vs ds) .non .bl .int .str (fun h _ ih => .lst (ex_l e h) ih) (fun h _ ih => .tup (ex_t e h) ih) .nil (fun _ _ a b => .cons a b) h
theorem rv_eqD {d1 d2 : PyData} (h1 : Dp K G x d1) (h2 : Dp K G y d2) (s1 : SeqAt.shaped d1 = true) (s2 : SeqAt.shaped d2 = true) : RV (rEqD K) x y G (.bl (PyData.eqv d1 d2)) := fun H1 e _ q => ⟨d1, d2, dp_mono e h1, dp_mono e h2, s1, s2, q H1 (Ex.refl H1)⟩
theorem rv_neD {d1 d2 : PyData} (h1 : Dp K G x d1) (h2 : Dp K G y d2) (s1 : SeqAt.shaped d1 = true) (s2 : SeqAt.shaped d2 = true) : RV (rNeD K) x y G (.bl (!PyData.eqv d1 d2)) := fun H1 e _ q => ⟨d1, d2, dp_mono e h1, dp_mono e h2, s1, s2, q H1 (Ex.refl H1)⟩
theorem dpAll_ints (ns : List Int) : DpAll K G (ns.map V.int) (ns.map PyData.int) := by
  induction ns with
  | nil => exact .nil
  | cons n r ih => exact .cons (.int n) ih
theorem dp_ints {p : Addr} {ns : List Int} (h : SqL K G p (ns.map V.int)) : Dp K G (.ref p) (.list (ns.map PyData.int)) := .lst h (dpAll_ints ns)
theorem canLay_ints (ns : List Int) : PyData.canLayAll0 (ns.map PyData.int) = true := by
  induction ns with
  | nil => first | rfl | simp [PyData.canLayAll0]
  | cons n r ih => simp [PyData.canLayAll0, PyData.canLay0, ih]
theorem depth_ints (ns : List Int) : PyData.depthAll (ns.map PyData.int) ≤ 1 := by
  induction ns with
  | nil => simp [PyData.depthAll]
  | cons n r ih => simp [PyData.depthAll, PyData.depth]; omega
theorem shaped_ints (ns : List Int) : SeqAt.shaped (.list (ns.map PyData.int)) = true := by
  have h := depth_ints ns
  simp [SeqAt.shaped, PyData.canLay0, PyData.depth, canLay_ints]
  omega
theorem eqv_ints : ∀ ns ms : List Int, PyData.eqvAll (ns.map PyData.int) (ms.map PyData.int) = decide (ns = ms)
  | [], [] => by simp [PyData.eqvAll]
  | [], _ :: _ => by simp [PyData.eqvAll]
  | _ :: _, [] => by simp [PyData.eqvAll]
  | n :: r, m :: s => by
    simp [PyData.eqvAll, PyData.eqv, eqv_ints r s]
    by_cases h : n = m <;> simp [h]
theorem eqvL_ints (ns ms : List Int) : PyData.eqv (.list (ns.map PyData.int)) (.list (ms.map PyData.int)) = decide (ns = ms) := by
  rw [PyData.eqv, eqv_ints]
theorem rv_eqInts {p q : Addr} {ns ms : List Int} (h1 : SqL K G p (ns.map V.int)) (h2 : SqL K G q (ms.map V.int)) : RV (rEqD K) (.ref p) (.ref q) G (.bl (decide (ns = ms))) := by
  rw [← eqvL_ints]
  exact rv_eqD (dp_ints h1) (dp_ints h2) (shaped_ints ns) (shaped_ints ms)
theorem rv_neInts {p q : Addr} {ns ms : List Int} (h1 : SqL K G p (ns.map V.int)) (h2 : SqL K G q (ms.map V.int)) : RV (rNeD K) (.ref p) (.ref q) G (.bl (!decide (ns = ms))) := by
  rw [← eqvL_ints]
  exact rv_neD (dp_ints h1) (dp_ints h2) (shaped_ints ns) (shaped_ints ms)
/-- list(xs) of a list -/
theorem el_listL {p : Addr} {xs : List V} (ha : Ev ta σ G (.ref p)) (h : SqL K G p xs) : EvL (tCB (fun xs H Q => ∃ p ys, xs = [V.ref p] ∧ (SqL K H p ys ∨ SqT K H p ys) ∧ ∀ l, H l = none → Q (.ref l) (upd H l (.lst ys))) (tCons ta tNil)) σ G xs := fun H1 e Q q =>
  ha H1 e _ fun H2 e2 => ⟨p, xs, rfl, Or.inl (ex_l (e.trans e2) h), fun l hl => q l _ (fresh_back e2 hl) (e2.trans (Ex.new hl)) upd_same⟩
theorem el_listT {p : Addr} {xs : List V} (ha : Ev ta σ G (.ref p)) (h : SqT K G p xs) : EvL (tCB (fun xs H Q => ∃ p ys, xs = [V.ref p] ∧ (SqL K H p ys ∨ SqT K H p ys) ∧ ∀ l, H l = none → Q (.ref l) (upd H l (.lst ys))) (tCons ta tNil)) σ G xs := fun H1 e Q q =>
  ha H1 e _ fun H2 e2 => ⟨p, xs, rfl, Or.inr (ex_t (e.trans e2) h), fun l hl => q l _ (fresh_back e2 hl) (e2.trans (Ex.new hl)) upd_same⟩
/-- int(text) -/
theorem ev_intS {a : Str} {n : Int} (h : Ev ta σ G (.str a)) (h1 : PySem.intText? a = some n) (h2 : a.length ≤ 640) : Ev (tCB (fun xs H Q => ∃ a n, xs = [V.str a] ∧ PySem.intText? a = some n ∧ a.length ≤ 640 ∧ Q (.int n) H) (tCons ta tNil)) σ G (.int n) := fun H1 e Q q =>
  h H1 e _ fun H2 e2 => ⟨a, n, rfl, h1, h2, q H2 e2⟩
/-- calls -/
theorem ev_call1 {sp : Sp} {vs : List V} {E : XK} {ta : TA} (h : EvA ta σ G vs) (hs : ∀ H1, Ex G H1 → ∀ Q : VK, RetV z H1 Q → ∀ E, sp vs H1 Q E) : Ev (tCall sp [] E ta) σ G z :=
  ev_call h (by rw [List.append_nil]; exact fun H1 e Q q E => hs H1 e Q q E)
theorem el_call1 {sp : Sp} {vs xs : List V} {E : XK} {ta : TA} (h : EvA ta σ G vs) (hs : ∀ H1, Ex G H1 → ∀ Q : VK, RetL xs H1 Q → ∀ E, sp vs H1 Q E) : EvL (tCall sp [] E ta) σ G xs :=
  el_call h (by rw [List.append_nil]; exact fun H1 e Q q E => hs H1 e Q q E)
end
end GR
namespace GR
open PySem PySem.Spec PyProof.Rows L2 Evl
section
variable {K : PySem.W.Frag} {σ : L2.St} {G H H' : Hp} {ta tb tc te tx : TE} {t u : TT} {x y z v : V} {D : Ends} {tu tw tz : TS} {g : TG}
/-! ### dicts -/
def constPairs (kvs : List (Str × Int)) : List (TE × TE) := kvs.map fun p => (tC (.str p.1), tC (.int p.2))
theorem pairs_const : ∀ (kvs : List (Str × Int)) (σ : L2.St) (H : Hp) (F : List (V × V) → Hp → Prop), F (kvs.map fun p => (V.str p.1, V.int p.2)) H → tPairs (constPairs kvs) σ H F
  | [], _, _, _, h => h
  | p :: r, σ, H, F, h => pairs_const r σ H (fun ps H3 => F ((V.str p.1, V.int p.2) :: ps) H3) h
/-- d = {'a': 1, ..}, the rest -/
theorem a_setDC {i : Nat} (kvs : List (Str × Int)) (hl : kvs.length ≤ 15) (e : Ex G H) (k : ∀ p H1, G p = none → Ex (upd G p (.dK (mergeK [] (kvs.map fun x => ((Sum.inr x.1 : Key), V.int x.2))))) H1 → tz D (σ.set i (some (.ref p))) H1) : tSeq (tAsg (tDisp (constPairs kvs)) (gName i)) tz D σ H := fun p hp =>
  pairs_const kvs σ _ _ ⟨upd_same, kvs.map fun x => ((Sum.inr x.1 : Key), V.int x.2), by rw [List.map_map]; rfl, by rw [List.length_map]; exact hl, k p _ (fresh_back e hp) (by
    rw [upd_upd]
    exact ex_upd e p _)⟩
/-- d[k] -/
theorem ev_dget {p : Addr} {kvs : List (Key × V)} {k : Key} (h1 : Ev ta σ G (.ref p)) (h2 : Ev tb σ G (kV k)) (hp : G p = some (.dK kvs)) (hv : valV kvs k = some v) : Ev (tDGet ta tb) σ G v := fun H1 e Q q =>
  h1 H1 e _ fun H2 e2 => h2 H2 (e.trans e2) _ fun H3 e3 => ⟨p, v, rfl, by
    rw [← hv]
    exact DGet.k (((e.trans e2).trans e3) p _ hp), q H3 (e2.trans e3)⟩
/-- k in d, k not in d -/
theorem ev_din {p : Addr} {kvs : List (Key × V)} {k : Key} (h1 : Ev ta σ G (.ref p)) (h2 : Ev tb σ G (kV k)) (hp : G p = some (.dK kvs)) : Ev (tDIn tb ta) σ G (.bl (valV kvs k).isSome) := fun H1 e Q q =>
  h2 H1 e _ fun H2 e2 => h1 H2 (e.trans e2) _ fun H3 e3 => ⟨p, _, rfl, DGet.k (((e.trans e2).trans e3) p _ hp), q H3 (e2.trans e3)⟩
theorem ev_dnotin {p : Addr} {kvs : List (Key × V)} {k : Key} (h1 : Ev ta σ G (.ref p)) (h2 : Ev tb σ G (kV k)) (hp : G p = some (.dK kvs)) : Ev (tDNotIn tb ta) σ G (.bl (!(valV kvs k).isSome)) := fun H1 e Q q =>
  h2 H1 e _ fun H2 e2 => h1 H2 (e.trans e2) _ fun H3 e3 => ⟨p, _, rfl, DGet.k (((e.trans e2).trans e3) p _ hp), q H3 (e2.trans e3)⟩
/-- d = {}, the rest -/
theorem a_setD0 {i : Nat} (e : Ex G H) (k : ∀ p H1, G p = none → Ex (upd G p (.dK [])) H1 → tz D (σ.set i (some (.ref p))) H1) : tSeq (tAsg tDNewK (gName i)) tz D σ H := fun p hp =>
  k p _ (fresh_back e hp) (ex_upd e p _)
/-- d[k] = v, the rest -/
theorem a_dput {p : Addr} {kvs : List (Key × V)} {k : Key} (e : Ex G H) (h : Ev tc σ G v) (h1 : Ev ta σ G (.ref p)) (h2 : Ev tb σ G (kV k)) (hp : G p = some (.dK kvs)) (hz : kvs.length < 100000) (q : ∀ H1, Ex (upd G p (.dK (putK kvs k v))) H1 → tz D σ H1) : tSeq (sDPut ta tb tc) tz D σ H :=
  h H e _ fun H1 e1 => h1 H1 (e.trans e1) _ fun H2 e2 => h2 H2 ((e.trans e1).trans e2) _ fun H3 e3 => ⟨p, _, rfl, DPut.k ((((e.trans e1).trans e2).trans e3) p _ hp) (sz_lt hz), q _ (ex_upd (((e.trans e1).trans e2).trans e3) p _)⟩
theorem a_dput1 {p : Addr} {kvs : List (Key × V)} {k : Key} (e : Ex G H) (h : Ev tc σ G v) (h1 : Ev ta σ G (.ref p)) (h2 : Ev tb σ G (kV k)) (hp : G p = some (.dK kvs)) (hz : kvs.length < 100000) (q : ∀ H1, Ex (upd G p (.dK (putK kvs k v))) H1 → D.nx σ H1) : sDPut ta tb tc D σ H :=
  h H e _ fun H1 e1 => h1 H1 (e.trans e1) _ fun H2 e2 => h2 H2 ((e.trans e1).trans e2) _ fun H3 e3 => ⟨p, _, rfl, DPut.k ((((e.trans e1).trans e2).trans e3) p _ hp) (sz_lt hz), q _ (ex_upd (((e.trans e1).trans e2).trans e3) p _)⟩
/-- for x in xs -/
theorem a_forL {p : Addr} {xs : List V} {tl : TE} {j : Nat} (e : Ex G H) (h : Ev tl σ G (.ref p)) (hx : SqL K G p xs) (Pv : Nat → L2.St → Hp → Prop) (h0 : ∀ H1, Ex G H1 → Pv 0 σ H1) (hl : ∀ i σ' H', i ≤ xs.length → Pv i σ' H' → SqL K H' p xs)
    (hs : ∀ i x σ' H', xs[i]? = some x → Pv i σ' H' → tu { D with nx := Pv (i + 1), ct := Pv (i + 1), bk := tz D } (σ'.set j (some x)) H') (hd : ∀ σ' H', Pv xs.length σ' H' → tz D σ' H') : tSeq (tFor (iList K tl) (gName j) tu) tz D σ H :=
  q_forLn (h.mono e) (ex_l e hx) Pv (fun H1 e1 => h0 H1 (e.trans e1)) hl hs hd
theorem a_forNL {xs : List V} {tl : TE} {j : Nat} (e : Ex G H) (h : EvL tl σ G xs) (Pv : Addr → Nat → L2.St → Hp → Prop) (h0 : ∀ p H1, G p = none → Ex (upd G p (.lst xs)) H1 → Pv p 0 σ H1) (hl : ∀ p i σ' H', i ≤ xs.length → Pv p i σ' H' → SqL K H' p xs)
    (hs : ∀ p i x σ' H', xs[i]? = some x → Pv p i σ' H' → tu { D with nx := Pv p (i + 1), ct := Pv p (i + 1), bk := tz D } (σ'.set j (some x)) H') (hd : ∀ p σ' H', Pv p xs.length σ' H' → tz D σ' H') : tSeq (tFor (iList K tl) (gName j) tu) tz D σ H :=
  q_forNLn (h.mono e) Pv (fun p H1 hp e1 hx => h0 p H1 (fresh_back e hp) (ex_to (e.trans e1) hx)) hl hs hd
theorem a_forT {p : Addr} {xs : List V} {tl : TE} {j : Nat} (e : Ex G H) (h : Ev tl σ G (.ref p)) (hx : SqT K G p xs) (Pv : Nat → L2.St → Hp → Prop) (h0 : ∀ H1, Ex G H1 → Pv 0 σ H1) (hl : ∀ i σ' H', i ≤ xs.length → Pv i σ' H' → SqT K H' p xs)
    (hs : ∀ i x σ' H', xs[i]? = some x → Pv i σ' H' → tu { D with nx := Pv (i + 1), ct := Pv (i + 1), bk := tz D } (σ'.set j (some x)) H') (hd : ∀ σ' H', Pv xs.length σ' H' → tz D σ' H') : tSeq (tFor (iTup K tl) (gName j) tu) tz D σ H :=
  q_forT (h.mono e) (ex_t e hx) Pv (fun H1 e1 => h0 H1 (e.trans e1)) hl hs hd
end
end GR
namespace GR
open PySem PySem.Spec PyProof.Rows L2 Evl
section
variable {K : PySem.W.Frag} {σ : L2.St} {G H H' : Hp} {ta tb tc te tx : TE} {t u : TT} {x y z v : V} {D : Ends} {tu tw tz : TS} {g : TG}
/-- a new list of which P holds -/
def EvN (te : TE) (σ : L2.St) (G : Hp) (P : List V → Prop) : Prop := ∀ H1, Ex G H1 → ∀ Q : VK, (∀ xs p H2, P xs → H1 p = none → Ex H1 H2 → H2 p = some (.lst xs) → Q (.ref p) H2) → te σ H1 Q
theorem a_setN {i : Nat} {P : List V → Prop} (e : Ex G H) (h : EvN te σ G P) (k : ∀ xs p H1, P xs → G p = none → Ex (upd G p (.lst xs)) H1 → tz D (σ.set i (some (.ref p))) H1) : tSeq (tAsg te (gName i)) tz D σ H :=
  h H e _ fun xs p H1 hP hp e1 h1 => k xs p H1 hP (fresh_back e hp) (ex_to (e.trans e1) h1)
theorem en_callL {sp : Sp} {E : XK} {xs : List V} {P : List V → Prop} (h1 : Ev ta σ G x) (h2 : ∀ H1, Ex G H1 → EvL tb σ H1 xs) (hs : ∀ p H1, Ex G H1 → H1 p = some (.lst xs) → ∀ Q : VK, (∀ ys q H2, P ys → H1 q = none → Ex H1 H2 → H2 q = some (.lst ys) → Q (.ref q) H2) → ∀ E, sp [x, .ref p] H1 Q E) : EvN (tCall sp [] E (tCons ta (tCons tb tNil))) σ G P := fun H1 e Q q =>
  h1 H1 e _ fun H2 e2 => h2 H2 (e.trans e2) H2 (Ex.refl H2) _ fun p H3 hp e3 h3 => hs p H3 ((e.trans e2).trans e3) h3 Q (fun ys r H4 hP hr e4 h4 => q ys r H4 hP (fresh_back (e2.trans e3) hr) ((e2.trans e3).trans e4) h4) E
end
end GR

namespace GR
open PySem PySem.Spec PyProof.Rows L2 Evl
def top (i : Nat) : Stmt := PySem.Challenge.pw_gatesread_k13_cell_value.main.body.getD i (.Pass ⟨0, 0, 0, 0⟩)
abbrev s_cell_inputs : Stmt := top 2
abbrev s_cell_value : Stmt := top 3
abbrev s_law_cell : Stmt := top 5
abbrev s_law_parts : Stmt := top 6
abbrev s_law_is_integer : Stmt := top 7
abbrev s_law_due : Stmt := top 8
abbrev s_law_right_kind : Stmt := top 9
abbrev s_law : Stmt := top 10
theorem sc_cell_inputs : FnScope ["kind"] ["kind"] (defScope s_cell_inputs) := ⟨rfl, rfl, rfl, by decide +kernel, rfl, by decide +kernel, by decide +kernel⟩
theorem sc_cell_value : FnScope ["kind", "values"] ["kind", "values"] (defScope s_cell_value) := ⟨rfl, rfl, rfl, by decide +kernel, rfl, by decide +kernel, by decide +kernel⟩
theorem sc_law_cell : FnScope ["script", "k"] ["script", "k"] (defScope s_law_cell) := ⟨rfl, rfl, rfl, by decide +kernel, rfl, by decide +kernel, by decide +kernel⟩
theorem sc_law_parts : FnScope ["cell", "sizes", "parts", "rest", "k", "mixed"] ["cell", "sizes"] (defScope s_law_parts) := ⟨rfl, rfl, rfl, by decide +kernel, rfl, by decide +kernel, by decide +kernel⟩
theorem sc_law_is_integer : FnScope ["actual"] ["actual"] (defScope s_law_is_integer) := ⟨rfl, rfl, rfl, by decide +kernel, rfl, by decide +kernel, by decide +kernel⟩
theorem sc_law_due : FnScope ["kind", "bits"] ["kind", "bits"] (defScope s_law_due) := ⟨rfl, rfl, rfl, by decide +kernel, rfl, by decide +kernel, by decide +kernel⟩
theorem sc_law_right_kind : FnScope ["kind", "number", "counts", "count", "bits", "k", "passed", "value"] ["kind", "number"] (defScope s_law_right_kind) := ⟨rfl, rfl, rfl, by decide +kernel, rfl, by decide +kernel, by decide +kernel⟩
theorem sc_law : FnScope ["script", "kinds", "parts", "kind"] ["script"] (defScope s_law) := ⟨rfl, rfl, rfl, by decide +kernel, rfl, by decide +kernel, by decide +kernel⟩
structure A where
  f_cell_inputs : Addr
  d_cell_inputs : FuncData
  f_cell_value : Addr
  d_cell_value : FuncData
  f_law_cell : Addr
  d_law_cell : FuncData
  f_law_parts : Addr
  d_law_parts : FuncData
  f_law_is_integer : Addr
  d_law_is_integer : FuncData
  f_law_due : Addr
  d_law_due : FuncData
  f_law_right_kind : Addr
  d_law_right_kind : FuncData
  f_law : Addr
  d_law : FuncData
  v_CELL_INPUTS : Addr
structure Top (K : PySem.W.Frag) (mg : Str → Option Value) (w : World) (a : A) : Prop where
  F_cell_inputs : Fun K "cell_inputs" "cell_inputs" s_cell_inputs a.f_cell_inputs a.d_cell_inputs
  b_cell_inputs : Binds K a.d_cell_inputs ["kind"] []
  g_cell_inputs : mg "cell_inputs" = some (.ref a.f_cell_inputs)
  F_cell_value : Fun K "cell_value" "cell_value" s_cell_value a.f_cell_value a.d_cell_value
  b_cell_value : Binds K a.d_cell_value ["kind", "values"] []
  g_cell_value : mg "cell_value" = some (.ref a.f_cell_value)
  F_law_cell : Fun K "_law_cell" "_law_cell" s_law_cell a.f_law_cell a.d_law_cell
  b_law_cell : Binds K a.d_law_cell ["script", "k"] []
  g_law_cell : mg "_law_cell" = some (.ref a.f_law_cell)
  F_law_parts : Fun K "_law_parts" "_law_parts" s_law_parts a.f_law_parts a.d_law_parts
  b_law_parts : Binds K a.d_law_parts ["cell", "sizes"] []
  g_law_parts : mg "_law_parts" = some (.ref a.f_law_parts)
  F_law_is_integer : Fun K "_law_is_integer" "_law_is_integer" s_law_is_integer a.f_law_is_integer a.d_law_is_integer
  b_law_is_integer : Binds K a.d_law_is_integer ["actual"] []
  g_law_is_integer : mg "_law_is_integer" = some (.ref a.f_law_is_integer)
  F_law_due : Fun K "_law_due" "_law_due" s_law_due a.f_law_due a.d_law_due
  b_law_due : Binds K a.d_law_due ["kind", "bits"] []
  g_law_due : mg "_law_due" = some (.ref a.f_law_due)
  F_law_right_kind : Fun K "_law_right_kind" "_law_right_kind" s_law_right_kind a.f_law_right_kind a.d_law_right_kind
  b_law_right_kind : Binds K a.d_law_right_kind ["kind", "number"] []
  g_law_right_kind : mg "_law_right_kind" = some (.ref a.f_law_right_kind)
  F_law : Fun K "law" "law" s_law a.f_law a.d_law
  b_law : Binds K a.d_law ["script"] []
  g_law : mg "law" = some (.ref a.f_law)
  z_bool : mg "bool" = none
  z_int : mg "int" = none
  z_isinstance : mg "isinstance" = none
  z_len : mg "len" = none
  z_list : mg "list" = none
  z_max : mg "max" = none
  z_min : mg "min" = none
  z_range : mg "range" = none
  z_sum : mg "sum" = none
  c_CELL_INPUTS : mg "CELL_INPUTS" = some (.ref a.v_CELL_INPUTS)
  e_CELL_INPUTS_0 : KDct K w a.v_CELL_INPUTS "not" (.int 1)
  e_CELL_INPUTS_1 : KDct K w a.v_CELL_INPUTS "nand2" (.int 2)
  e_CELL_INPUTS_2 : KDct K w a.v_CELL_INPUTS "nand3" (.int 3)
  e_CELL_INPUTS_3 : KDct K w a.v_CELL_INPUTS "nor2" (.int 2)
  e_CELL_INPUTS_4 : KDct K w a.v_CELL_INPUTS "nor3" (.int 3)
  e_CELL_INPUTS_5 : KDct K w a.v_CELL_INPUTS "latch" (.int 1)
  e_CELL_INPUTS_6 : KDct K w a.v_CELL_INPUTS "tie0" (.int 0)
  e_CELL_INPUTS_7 : KDct K w a.v_CELL_INPUTS "tie1" (.int 0)
section
variable {P : Program} {w : World} {K : PySem.W.Frag} {mg : Str → Option Value} {base : Heap} {a : A}
/-! ### evaluation by the reading's head -/
local macro_rules | `(tactic| walk_at "sq") => `(tactic| first
  | assumption
  | exact sq_of upd_same | exact st_of upd_same
  | exact sq_of (by assumption) | exact st_of (by assumption)
  | exact ex_l (Ex.new (by assumption)) (by assumption) | exact ex_t (Ex.new (by assumption)) (by assumption)
  | exact ex_l (by assumption) (by assumption) | exact ex_t (by assumption) (by assumption))
local macro_rules | `(tactic| walk_at "rv") => `(tactic| first
  | exact rv_I0
  | exact rv_eq rfl | exact rv_ne rfl
  | exact rv_ixL (by walk_at "sq") (by first | assumption | rfl)
  | exact rv_ixT (by walk_at "sq") (by first | assumption | rfl)
  | exact rv_I (by first | assumption | decide | omega | exact ⟨by decide, by decide, by decide⟩ | exact .inl ⟨by omega, by omega⟩ | exact .inr ⟨by omega, by omega⟩))
local macro_rules | `(tactic| walk_at "ev") => `(tactic| first
  | exact ev_var rfl
  | exact ev_c
  | exact ea_nil
  | (apply ea_cons; (walk_at "ev"); (walk_at "ev"))
  | (apply ev_op; (walk_at "ev"); (walk_at "ev"); (walk_at "rv"))
  | (apply ev_un; (walk_at "ev"); exact ru_neg)
  | (apply ev_int1; (walk_at "ev"))
  | (apply ev_lenS; (walk_at "ev"); (walk_at "sq"))
  | (apply ev_lenT; (walk_at "ev"); (walk_at "sq"))
  | (apply et_test; (walk_at "ev"))
  | (apply et_B; (walk_at "ev"))
  | (apply et_not; (walk_at "ev"))
  | (apply ev_notV; (walk_at "ev"))
  | (apply el_lst; (walk_at "ev"); decide)
  | (apply eu_tup; (walk_at "ev"); decide))

/-! ### _law_cell, _law_parts, _law_is_integer -/
def sp_law_cell (K : PySem.W.Frag) : Sp := fun vs H Q _ => ∃ (l : Addr) (ns : List Int) (j : Nat), vs = [.ref l, .int (j : Int)] ∧ SqL K H l (ns.map V.int) ∧ RetV (.int (cellOf ns j)) H Q
theorem ok_law_cell (T : Top K mg w a) : FnOk P w K mg base CX0 1 a.f_law_cell a.d_law_cell ["script", "k"] (sp_law_cell K) := by
  refine T.F_law_cell.ok sc_law_cell (fun vs H Q E h => ?_) (fun cdv A outer s H vs Q E hr h => ?_)
  · obtain ⟨l, ns, j, rfl, _⟩ := h
    rfl
  · obtain ⟨l, ns, j, rfl, hS, q⟩ := h
    refine ⟨_, (pss_cons (ps_if (pt_cmpR op_lt (pv 1) (pe_callB call_len_seq (by rfl) T.z_len (by decide +kernel) (pa_cons (pv 0) pa_nil)) (nomark _))
      (pss_one (ps_ret (pe_ix ix_list (pv 0) (pv 1) (fun _ _ => rfl))))
      pss_nil)
      (pss_one (ps_ret pe_int))), ?_⟩
    refine a_when (Ex.refl H) (by walk_at "ev") (fun hb H1 e1 => ?_) (fun hb H1 e1 => ?_)
    · have hj : j < ns.length := by
        have z := of_decide_eq_true hb
        rw [List.length_map] at z
        omega
      exact a_ret e1 (ev_op (ev_var rfl) (ev_var rfl) (rv_ixL hS (at_map hj))) q
    · have hj : ¬ j < ns.length := by
        have z := of_decide_eq_false hb
        rw [List.length_map] at z
        omega
      have e : cellOf ns j = 0 := by
        unfold cellOf
        rw [List.getD_eq_getElem?_getD, List.getElem?_eq_none (by omega)]
        rfl
      rw [e] at q
      exact a_ret e1 ev_c q
def sp_law_parts (K : PySem.W.Frag) : Sp := fun vs H Q _ => ∃ (c : Int) (l : Addr) (sizes : List Int), vs = [.int c, .ref l] ∧ SqL K H l (sizes.map V.int) ∧ sizes.length ≤ 1000 ∧ (∀ s ∈ sizes, 0 < s ∧ s ≤ 1000000000) ∧ ∀ ns, Draw ns sizes → RetL (ns.map V.int) H Q
theorem draw_step {ns sizes : List Int} {i : Nat} {x : Int} (hl : ns.length = i) (h : ∀ k, k < i → 0 ≤ ns.getD k 0 ∧ ns.getD k 0 < sizes.getD k 0) (h0 : 0 ≤ x) (h1 : x < sizes.getD i 0) :
    (ns ++ [x]).length = i + 1 ∧ ∀ k, k < i + 1 → 0 ≤ (ns ++ [x]).getD k 0 ∧ (ns ++ [x]).getD k 0 < sizes.getD k 0 := by
  refine ⟨by rw [List.length_append, hl]; rfl, fun k hk => ?_⟩
  by_cases q : k < i
  · have e : (ns ++ [x]).getD k 0 = ns.getD k 0 := by
      rw [List.getD_eq_getElem?_getD, List.getElem?_append_left (by omega), ← List.getD_eq_getElem?_getD]
    rw [e]
    exact h k q
  · have e2 : k = i := by omega
    subst e2
    have e : (ns ++ [x]).getD k 0 = x := by
      rw [List.getD_eq_getElem?_getD, List.getElem?_append_right (by omega), hl, Nat.sub_self]
      rfl
    rw [e]
    exact ⟨h0, h1⟩
theorem ok_law_parts (T : Top K mg w a) : FnOk P w K mg base CX0 1 a.f_law_parts a.d_law_parts ["cell", "sizes"] (sp_law_parts K) := by
  refine T.F_law_parts.ok sc_law_parts (fun vs H Q E h => ?_) (fun cdv A outer s H vs Q E hr h => ?_)
  · obtain ⟨c, l, sizes, rfl, _⟩ := h
    rfl
  · obtain ⟨c, l, sizes, rfl, hS, hlen, hpos, q⟩ := h
    refine ⟨_, (pss_cons (ps_set (i := 2) sc_law_parts.nd rfl (Or.inl rfl) (pe_lst pa_nil))
      (pss_cons (ps_set (i := 3) sc_law_parts.nd rfl (Or.inl rfl) (pe_op op_sub (pv 0) (pe_op op_pow pe_int pe_int)))
      (pss_cons (ps_for PassesOwn.never rfl (pi_range1 rfl T.z_range (pa_cons (pe_callB call_len_seq (by rfl) T.z_len (by decide +kernel) (pa_cons (pv 1) pa_nil)) pa_nil)) (pg_name (i := 4) sc_law_parts.nd rfl (Or.inl rfl))
      (pss_one (ps_if (pt_cmpR op_ge (pv 3) pe_int (nomark _))
      (pss_cons (ps_expr (pe_bm PySem.F.plainAttrs_list PySem.F.slot_list_append PySem.F.type_list_append mt_append (pv 2) (pa_cons (pe_op op_mod (pe_callTy call_int1 (by rfl) T.z_int (by decide +kernel) (pa_cons (pv 3) pa_nil)) (pe_ix ix_list (pv 1) (pv 4) (fun _ _ => rfl))) pa_nil)))
      (pss_one (ps_set (i := 3) sc_law_parts.nd rfl (Or.inl rfl) (pe_op op_fdivW (pv 3) (pe_ix ix_list (pv 1) (pv 4) (fun _ _ => rfl))))))
      (pss_cons (ps_set (i := 5) sc_law_parts.nd rfl (Or.inl rfl) (pe_op op_mod (pe_callTy call_int1 (by rfl) T.z_int (by decide +kernel) (pa_cons (pe_op op_add (pe_op op_add (pe_op op_mul (pv 0) pe_int) (pe_op op_mul (pv 4) pe_int)) pe_int) pa_nil)) pe_int))
      (pss_cons (ps_set (i := 5) sc_law_parts.nd rfl (Or.inl rfl) (pe_op op_mod (pe_callTy call_int1 (by rfl) T.z_int (by decide +kernel) (pa_cons (pe_op op_add (pe_op op_add (pe_op op_mul (pv 5) (pv 5)) (pe_op op_mul pe_int (pv 4))) pe_int) pa_nil)) pe_int))
      (pss_one (ps_expr (pe_bm PySem.F.plainAttrs_list PySem.F.slot_list_append PySem.F.type_list_append mt_append (pv 2) (pa_cons (pe_op op_mod (pe_callTy call_int1 (by rfl) T.z_int (by decide +kernel) (pa_cons (pv 5) pa_nil)) (pe_ix ix_list (pv 1) (pv 4) (fun _ _ => rfl))) pa_nil)))))))))
      (pss_one (ps_ret (pv 2)))))), ?_⟩
    refine a_setL (Ex.refl H) (by walk_at "ev") (fun p H1 hp e1 => ?_)
    refine a_set e1 (by walk_at "ev") (fun H2 e2 => ?_)
    refine a_forR (n := (sizes.length : Int)) e2 (ea_cons (ev_is (ev_lenS (ev_var rfl) (ex_l (Ex.new hp) hS)) (by rw [List.length_map])) ea_nil) ⟨by omega, by omega⟩
      (fun i σ' H' => ∃ (rest : Int) (y m : Option V) (ns : List Int), σ' = [some (.int c), some (.ref l), some (.ref p), some (.int rest), y, m] ∧ ns.length = i ∧ (∀ k, k < i → 0 ≤ ns.getD k 0 ∧ ns.getD k 0 < sizes.getD k 0) ∧ Ex (upd H p (.lst (ns.map V.int))) H')
      (fun H3 e3 => ⟨_, _, _, [], rfl, rfl, fun k hk => absurd hk (Nat.not_lt_zero k), e3⟩) ?_ ?_
    · rintro i σ' H' hi ⟨rest, y, m, ns, rfl, hl, hd, e3⟩
      have hil : i < sizes.length := by omega
      have hsz : 0 < sizes.getD i 0 ∧ sizes.getD i 0 ≤ 1000000000 := by
        refine hpos _ ?_
        rw [List.getD_eq_getElem?_getD, List.getElem?_eq_getElem hil]
        exact List.getElem_mem hil
      have hSi : SqL K (upd H p (.lst (ns.map V.int))) l (sizes.map V.int) := ex_l (Ex.new hp) hS
      have hz : (ns.map V.int).length < 100000 := by rw [List.length_map, hl]; omega
      refine a_if e3 (et_test (ev_op (ev_var rfl) ev_c rv_I0)) (fun hb H4 e4 => ?_) (fun hb H4 e4 => ?_)
      · refine a_app (v := .int (rest % sizes.getD i 0)) e4 (ev_var rfl) upd_same (ev_op (ev_int1 (ev_var rfl)) (ev_op (ev_var rfl) (ev_var rfl) (rv_ixL hSi (at_map hil))) (rv_I hsz.1)) hz (fun H5 e5 => ?_)
        rw [upd_upd] at e5
        refine a_set1 e5 (ev_op (ev_var rfl) (ev_op (ev_var rfl) (ev_var rfl) (rv_ixL (ex_l (Ex.new hp) hS) (at_map hil))) (rv_I (wide_div (b := 64) hsz.1 (by omega) (by decide) (by decide)))) (fun H6 e6 => ?_)
        obtain ⟨g1, g2⟩ := draw_step hl hd (Int.emod_nonneg rest (by omega)) (Int.emod_lt_of_pos rest hsz.1)
        refine ⟨_, _, _, ns ++ [rest % sizes.getD i 0], rfl, g1, g2, ?_⟩
        rw [List.map_append]
        exact e6
      · refine a_set (v := .int ((c * 48271 + (i : Int) * 69621 + 11) % 2147483647)) e4 (ev_op (ev_int1 (ev_op (ev_op (ev_op (ev_var rfl) ev_c (rv_I (.inr ⟨by decide, by decide⟩))) (ev_op (ev_var rfl) ev_c (rv_I (.inr ⟨by decide, by decide⟩))) rv_I0) ev_c rv_I0)) ev_c (rv_I (by decide))) (fun H5 e5 => ?_)
        have m1 : 0 ≤ (c * 48271 + (i : Int) * 69621 + 11) % 2147483647 := Int.emod_nonneg _ (by decide)
        have m2 : (c * 48271 + (i : Int) * 69621 + 11) % 2147483647 < 2147483647 := Int.emod_lt_of_pos _ (by decide)
        generalize (c * 48271 + (i : Int) * 69621 + 11) % 2147483647 = mx at m1 m2 ⊢
        refine a_set (v := .int ((mx * mx + 16807 * (i : Int) + 5) % 998244353)) e5 (ev_op (ev_int1 (ev_op (ev_op (ev_op (ev_var rfl) (ev_var rfl) (rv_I (.inl ⟨by omega, by omega⟩))) (ev_op ev_c (ev_var rfl) (rv_I (.inl ⟨by decide, by decide⟩))) rv_I0) ev_c rv_I0)) ev_c (rv_I (by decide))) (fun H6 e6 => ?_)
        generalize (mx * mx + 16807 * (i : Int) + 5) % 998244353 = my
        refine a_app1 (v := .int (my % sizes.getD i 0)) e6 (ev_var rfl) upd_same (ev_op (ev_int1 (ev_var rfl)) (ev_op (ev_var rfl) (ev_var rfl) (rv_ixL hSi (at_map hil))) (rv_I hsz.1)) hz (fun H7 e7 => ?_)
        rw [upd_upd] at e7
        obtain ⟨g1, g2⟩ := draw_step hl hd (Int.emod_nonneg my (by omega)) (Int.emod_lt_of_pos my hsz.1)
        refine ⟨_, _, _, ns ++ [my % sizes.getD i 0], rfl, g1, g2, ?_⟩
        rw [List.map_append]
        exact e7
    · rintro σ' H' ⟨rest, y, m, ns, rfl, hl, hd, e3⟩
      have en : ns.length = sizes.length := by rw [hl]; exact Int.toNat_natCast _
      refine a_ret e3 (ev_var rfl) (fun H4 e4 => ?_)
      exact q ns ⟨en, fun k hk => hd k (by omega)⟩ p H4 hp (fun b o z => e4 b o ((Ex.new hp) b o z)) (e4 p _ upd_same)

def sp_law_is_integer (K : PySem.W.Frag) : Sp := fun vs H Q _ => ∃ (i : Int), vs = [.int i] ∧ RetV (.bl true) H Q
theorem ok_law_is_integer (T : Top K mg w a) : FnOk P w K mg base CX0 1 a.f_law_is_integer a.d_law_is_integer ["actual"] (sp_law_is_integer K) := by
  refine T.F_law_is_integer.ok sc_law_is_integer (fun vs H Q E h => ?_) (fun cdv A outer s H vs Q E hr h => ?_)
  · obtain ⟨i, rfl, _⟩ := h
    rfl
  · obtain ⟨i, rfl, q⟩ := h
    refine ⟨_, (pss_one (ps_ret (pe_and (pe_callB call_isi (by rfl) T.z_isinstance (by decide +kernel) (pa_cons (pv 0) (pa_cons (pe_bltn (v := .ty "int") (by rfl) T.z_int (by decide +kernel) rfl) pa_nil))) (pe_one (pe_not (pe_callB call_isi (by rfl) T.z_isinstance (by decide +kernel) (pa_cons (pv 0) (pa_cons (pe_bltn (v := .ty "bool") (by rfl) T.z_bool (by decide +kernel) rfl) pa_nil)))))))), ?_⟩
    exact a_ret (Ex.refl H) (ev_andV (ev_isiInt (ev_var rfl)) fun _ => ev_notV (ev_isiIntB (ev_var rfl))) q

/-! ### the kinds of cells -/
def kinds8 : List (Str × Int) := [("not", 1), ("nand2", 2), ("nand3", 3), ("nor2", 2), ("nor3", 3), ("latch", 1), ("tie0", 0), ("tie1", 0)]
theorem kinds_cases {k : Str} {n : Int} (h : (k, n) ∈ kinds8) : (k = "not" ∧ n = 1) ∨ (k = "nand2" ∧ n = 2) ∨ (k = "nand3" ∧ n = 3) ∨ (k = "nor2" ∧ n = 2) ∨ (k = "nor3" ∧ n = 3) ∨ (k = "latch" ∧ n = 1) ∨ (k = "tie0" ∧ n = 0) ∨ (k = "tie1" ∧ n = 0) := by
  simpa [kinds8] using h
def sp_cell_inputs (K : PySem.W.Frag) : Sp := fun vs H Q _ => ∃ (k : Str) (n : Int), vs = [.str k] ∧ (k, n) ∈ kinds8 ∧ RetV (.int n) H Q
theorem ok_cell_inputs (T : Top K mg w a) : FnOk P w K mg base CX0 1 a.f_cell_inputs a.d_cell_inputs ["kind"] (sp_cell_inputs K) := by
  refine T.F_cell_inputs.ok sc_cell_inputs (fun vs H Q E h => ?_) (fun cdv A outer s H vs Q E hr h => ?_)
  · obtain ⟨k, n, rfl, _⟩ := h
    rfl
  · obtain ⟨k, n, rfl, hk, q⟩ := h
    refine ⟨_, (pss_one (ps_ret (pe_ix ix_kdict (pe_glob (v := .ref a.v_CELL_INPUTS) rfl T.c_CELL_INPUTS rfl) (pv 0) (fun _ _ => rfl)))), ?_⟩
    refine a_ret (Ex.refl H) (ev_op ev_c (ev_var rfl) (rv_kd (v := .int n) ?_)) q
    rcases kinds_cases hk with ⟨rfl, rfl⟩ | ⟨rfl, rfl⟩ | ⟨rfl, rfl⟩ | ⟨rfl, rfl⟩ | ⟨rfl, rfl⟩ | ⟨rfl, rfl⟩ | ⟨rfl, rfl⟩ | ⟨rfl, rfl⟩
    · exact T.e_CELL_INPUTS_0
    · exact T.e_CELL_INPUTS_1
    · exact T.e_CELL_INPUTS_2
    · exact T.e_CELL_INPUTS_3
    · exact T.e_CELL_INPUTS_4
    · exact T.e_CELL_INPUTS_5
    · exact T.e_CELL_INPUTS_6
    · exact T.e_CELL_INPUTS_7
/-! ### bits -/
def Bits (bs : List Int) : Prop := ∀ b ∈ bs, b = 0 ∨ b = 1
def bmin (bs : List Int) : Int := if (0 : Int) ∈ bs then 0 else 1
def bmax (bs : List Int) : Int := if (1 : Int) ∈ bs then 1 else 0
theorem bmin_mem {bs : List Int} (h : Bits bs) (h0 : bs ≠ []) : bmin bs ∈ bs ∧ ∀ y ∈ bs, bmin bs ≤ y := by
  unfold bmin
  by_cases q : (0 : Int) ∈ bs
  · rw [if_pos q]
    refine ⟨q, fun y hy => ?_⟩
    rcases h y hy with e | e <;> omega
  · rw [if_neg q]
    have a : ∀ y ∈ bs, y = 1 := fun y hy => by
      rcases h y hy with e | e
      · rw [e] at hy
        exact absurd hy q
      · exact e
    refine ⟨?_, fun y hy => by rw [a y hy]; omega⟩
    cases bs with
    | nil => exact absurd rfl h0
    | cons x r => rw [← a x List.mem_cons_self]; exact List.mem_cons_self
theorem bmax_mem {bs : List Int} (h : Bits bs) (h0 : bs ≠ []) : bmax bs ∈ bs ∧ ∀ y ∈ bs, y ≤ bmax bs := by
  unfold bmax
  by_cases q : (1 : Int) ∈ bs
  · rw [if_pos q]
    refine ⟨q, fun y hy => ?_⟩
    rcases h y hy with e | e <;> omega
  · rw [if_neg q]
    have a : ∀ y ∈ bs, y = 0 := fun y hy => by
      rcases h y hy with e | e
      · exact e
      · rw [e] at hy
        exact absurd hy q
    refine ⟨?_, fun y hy => by rw [a y hy]; omega⟩
    cases bs with
    | nil => exact absurd rfl h0
    | cons x r => rw [← a x List.mem_cons_self]; exact List.mem_cons_self
theorem bits_sum {bs : List Int} (h : Bits bs) : 0 ≤ bs.sum ∧ bs.sum ≤ bs.length ∧ ((1 : Int) ∈ bs ↔ bs.sum ≠ 0) ∧ ((0 : Int) ∈ bs ↔ bs.sum < bs.length) := by
  induction bs with
  | nil => simp
  | cons b r ih =>
    obtain ⟨i1, i2, i3, i4⟩ := ih fun x hx => h x (List.mem_cons_of_mem _ hx)
    rw [List.sum_cons, List.length_cons, List.mem_cons, List.mem_cons, i3, i4]
    rcases h b List.mem_cons_self with e | e <;> subst e <;> refine ⟨by omega, by omega, ?_, ?_⟩ <;> omega
def cellV (k : Str) (bs : List Int) : Int := if k = "tie0" then 0 else if k = "tie1" then 1 else if k = "nor2" ∨ k = "nor3" then 1 - bmax bs else 1 - bmin bs
theorem dec_str {a b : Str} : decide (V.str a = V.str b) = decide (a = b) := by
  by_cases h : a = b
  · rw [h]; simp
  · rw [decide_eq_false h]
    exact decide_eq_false fun q => h (V.str.inj q)
def sp_cell_value (K : PySem.W.Frag) : Sp := fun vs H Q _ => ∃ (k : Str) (l : Addr) (bs : List Int), vs = [.str k, .ref l] ∧ SqL K H l (bs.map V.int) ∧ Bits bs ∧ (k ≠ "tie0" → k ≠ "tie1" → bs ≠ []) ∧ RetV (.int (cellV k bs)) H Q
theorem ok_cell_value (T : Top K mg w a) : FnOk P w K mg base CX0 1 a.f_cell_value a.d_cell_value ["kind", "values"] (sp_cell_value K) := by
  refine T.F_cell_value.ok sc_cell_value (fun vs H Q E h => ?_) (fun cdv A outer s H vs Q E hr h => ?_)
  · obtain ⟨k, l, bs, rfl, _⟩ := h
    rfl
  · obtain ⟨k, l, bs, rfl, hS, hB, hn, q⟩ := h
    refine ⟨_, (pss_cons (ps_if (pt_cmpR op_eq (pv 0) pe_str (nomark _))
      (pss_one (ps_ret pe_int))
      pss_nil)
      (pss_cons (ps_if (pt_cmpR op_eq (pv 0) pe_str (nomark _))
      (pss_one (ps_ret pe_int))
      pss_nil)
      (pss_cons (ps_if (pt_cmpR op_in_seq (pv 0) (pe_tup (pa_cons pe_str (pa_cons pe_str pa_nil))) (by rfl))
      (pss_one (ps_ret (pe_op op_sub pe_int (pe_callB (cr_max rfl) (by rfl) T.z_max (by decide +kernel) (pa_cons (pv 1) pa_nil)))))
      pss_nil)
      (pss_one (ps_ret (pe_op op_sub pe_int (pe_callB (cr_min rfl) (by rfl) T.z_min (by decide +kernel) (pa_cons (pv 1) pa_nil)))))))), ?_⟩
    unfold cellV at q
    refine a_when (Ex.refl H) (et_test (ev_op (ev_var rfl) ev_c (rv_eq rfl))) (fun hb H1 e1 => ?_) (fun hb H1 e1 => ?_)
    · rw [dec_str] at hb
      rw [if_pos (of_decide_eq_true hb)] at q
      exact a_ret e1 ev_c q
    rw [dec_str] at hb
    have n0 := of_decide_eq_false hb
    rw [if_neg n0] at q
    refine a_when e1 (et_test (ev_op (ev_var rfl) ev_c (rv_eq rfl))) (fun hb H2 e2 => ?_) (fun hb H2 e2 => ?_)
    · rw [dec_str] at hb
      rw [if_pos (of_decide_eq_true hb)] at q
      exact a_ret e2 ev_c q
    rw [dec_str] at hb
    have n1 := of_decide_eq_false hb
    rw [if_neg n1] at q
    have hne := hn n0 n1
    have ein : inV (.str k) [.str "nor2", .str "nor3"] = decide (k = "nor2" ∨ k = "nor3") := by
      show ((("nor2" : Str) == k) || ((("nor3" : Str) == k) || false)) = _
      by_cases h2 : k = "nor2"
      · subst h2; simp
      · by_cases h3 : k = "nor3"
        · subst h3; simp
        · have a2 : (("nor2" : Str) == k) = false := by simpa using fun z => h2 z.symm
          have a3 : (("nor3" : Str) == k) = false := by simpa using fun z => h3 z.symm
          rw [a2, a3]; simp [h2, h3]
    refine a_when e2 (et_test (ev_is (ev_inU (ev_var rfl) (eu_tup (ea_cons ev_c (ea_cons ev_c ea_nil)) (by decide)) rfl rfl) (congrArg V.bl ein))) (fun hb H3 e3 => ?_) (fun hb H3 e3 => ?_)
    · rw [if_pos (of_decide_eq_true hb)] at q
      exact a_ret e3 (ev_op ev_c (ev_max (ev_var rfl) hS (bmax_mem hB hne).1 (bmax_mem hB hne).2) rv_I0) q
    · rw [if_neg (of_decide_eq_false hb)] at q
      exact a_ret e3 (ev_op ev_c (ev_min (ev_var rfl) hS (bmin_mem hB hne).1 (bmin_mem hB hne).2) rv_I0) q

def sp_law_due (K : PySem.W.Frag) : Sp := fun vs H Q _ => ∃ (k : Str) (n : Int) (l : Addr) (bs : List Int), vs = [.str k, .ref l] ∧ (k, n) ∈ kinds8 ∧ k ≠ "latch" ∧ SqL K H l (bs.map V.int) ∧ Bits bs ∧ RetV (.int (cellV k bs)) H Q
theorem cell_nor {bs : List Int} (h : Bits bs) : 1 - bmax bs = if bs.sum = 0 then 1 else 0 := by
  obtain ⟨a, b, c, d⟩ := bits_sum h
  unfold bmax
  by_cases q : (1 : Int) ∈ bs
  · rw [if_pos q, if_neg (c.mp q)]; rfl
  · rw [if_neg q, if_pos (by by_cases z : bs.sum = 0 <;> simp_all)]; rfl
theorem cell_nand {bs : List Int} (h : Bits bs) : 1 - bmin bs = if bs.sum < (bs.length : Int) then 1 else 0 := by
  obtain ⟨a, b, c, d⟩ := bits_sum h
  unfold bmin
  by_cases q : (0 : Int) ∈ bs
  · rw [if_pos q, if_pos (d.mp q)]; rfl
  · rw [if_neg q, if_neg (fun z => q (d.mpr z))]; rfl
theorem ite_dec {p : Prop} [Decidable p] : (if decide p then (1 : Int) else 0) = if p then 1 else 0 := by
  by_cases h : p <;> simp [h]
theorem ok_law_due (T : Top K mg w a) : FnOk P w K mg base CX0 1 a.f_law_due a.d_law_due ["kind", "bits"] (sp_law_due K) := by
  refine T.F_law_due.ok sc_law_due (fun vs H Q E h => ?_) (fun cdv A outer s H vs Q E hr h => ?_)
  · obtain ⟨k, n, l, bs, rfl, _⟩ := h
    rfl
  · obtain ⟨k, n, l, bs, rfl, hk, hla, hS, hB, q⟩ := h
    refine ⟨_, (pss_cons (ps_if (pt_cmpR op_eq (pe_slice sl_str (pv 0) po_none (po_some pe_int)) pe_str (nomark _))
      (pss_one (ps_ret (pe_callTy call_int1 (by rfl) T.z_int (by decide +kernel) (pa_cons (pe_cmpR op_eq (pe_callB (cr_sum rfl) (by rfl) T.z_sum (by decide +kernel) (pa_cons (pv 1) pa_nil)) pe_int (nomark _)) pa_nil))))
      pss_nil)
      (pss_cons (ps_if (pt_cmpR op_eq (pe_slice sl_str (pv 0) po_none (po_some pe_int)) pe_str (nomark _))
      (pss_one (ps_ret (pe_callTy call_int_str (by rfl) T.z_int (by decide +kernel) (pa_cons (pe_ix ix_str (pv 0) pe_int (fun _ _ => rfl)) pa_nil))))
      pss_nil)
      (pss_one (ps_ret (pe_callTy call_int1 (by rfl) T.z_int (by decide +kernel) (pa_cons (pe_cmpR op_lt (pe_callB (cr_sum rfl) (by rfl) T.z_sum (by decide +kernel) (pa_cons (pv 1) pa_nil)) (pe_callB call_len_seq (by rfl) T.z_len (by decide +kernel) (pa_cons (pv 1) pa_nil)) (nomark _)) pa_nil)))))), ?_⟩
    have en : decide (V.str (cutS k none (some 3)) = V.str "nor") = decide (k = "nor2" ∨ k = "nor3") := by
      rcases kinds_cases hk with ⟨rfl, rfl⟩ | ⟨rfl, rfl⟩ | ⟨rfl, rfl⟩ | ⟨rfl, rfl⟩ | ⟨rfl, rfl⟩ | ⟨rfl, rfl⟩ | ⟨rfl, rfl⟩ | ⟨rfl, rfl⟩ <;> decide +kernel
    have et : decide (V.str (cutS k none (some 3)) = V.str "tie") = decide (k = "tie0" ∨ k = "tie1") := by
      rcases kinds_cases hk with ⟨rfl, rfl⟩ | ⟨rfl, rfl⟩ | ⟨rfl, rfl⟩ | ⟨rfl, rfl⟩ | ⟨rfl, rfl⟩ | ⟨rfl, rfl⟩ | ⟨rfl, rfl⟩ | ⟨rfl, rfl⟩ <;> decide +kernel
    have hz : k.length ≤ 100000 := by
      rcases kinds_cases hk with ⟨rfl, rfl⟩ | ⟨rfl, rfl⟩ | ⟨rfl, rfl⟩ | ⟨rfl, rfl⟩ | ⟨rfl, rfl⟩ | ⟨rfl, rfl⟩ | ⟨rfl, rfl⟩ | ⟨rfl, rfl⟩ <;> decide +kernel
    refine a_when (Ex.refl H) (et_test (ev_op (ev_slS (ev_var rfl) eo_none (eo_some ev_c) hz) ev_c (rv_eq rfl))) (fun hb H1 e1 => ?_) (fun hb H1 e1 => ?_)
    · rw [en] at hb
      have hb := of_decide_eq_true hb
      have ec : cellV k bs = 1 - bmax bs := by
        rcases hb with rfl | rfl <;> rfl
      rw [ec, cell_nor hB, ← ite_dec] at q
      refine a_ret e1 (ev_is (ev_int1b (ev_op (ev_sum (ev_var rfl) hS) ev_c (rv_eq rfl))) ?_) q
      congr 2
      simp
    rw [en] at hb
    have nn := of_decide_eq_false hb
    refine a_when e1 (et_test (ev_op (ev_slS (ev_var rfl) eo_none (eo_some ev_c) hz) ev_c (rv_eq rfl))) (fun hb H2 e2 => ?_) (fun hb H2 e2 => ?_)
    · rw [et] at hb
      rcases of_decide_eq_true hb with rfl | rfl
      · exact a_ret e2 (ev_intS (n := 0) (ev_op (ev_var rfl) ev_c (rv_ixS (c := 48) (by decide) (by decide +kernel))) (by decide +kernel) (by decide)) q
      · exact a_ret e2 (ev_intS (n := 1) (ev_op (ev_var rfl) ev_c (rv_ixS (c := 49) (by decide) (by decide +kernel))) (by decide +kernel) (by decide)) q
    · rw [et] at hb
      have nt := of_decide_eq_false hb
      have ec : cellV k bs = 1 - bmin bs := by
        unfold cellV
        rw [if_neg (fun z => nt (.inl z)), if_neg (fun z => nt (.inr z)), if_neg nn]
      rw [ec, cell_nand hB, ← ite_dec] at q
      refine a_ret e2 (ev_is (ev_int1b (ev_op (ev_sum (ev_var rfl) hS) (ev_lenS (ev_var rfl) hS) rv_I0)) ?_) q
      congr 2
      simp

def sp_law_right_kind (K : PySem.W.Frag) : Sp := fun vs H Q _ => ∃ (k : Str) (n c : Int), vs = [.str k, .int n] ∧ (k, c) ∈ kinds8 ∧ RetV (.bl true) H Q
theorem decI {i j : Int} (h : i = j) : decide (V.int i = V.int j) = true := by rw [h]; simp
theorem ok_law_right_kind (T : Top K mg w a) : FnOk P w K mg base CX0 2 a.f_law_right_kind a.d_law_right_kind ["kind", "number"] (sp_law_right_kind K) := by
  refine T.F_law_right_kind.ok sc_law_right_kind (fun vs H Q E h => ?_) (fun cdv A outer s H vs Q E hr h => ?_)
  · obtain ⟨k, n, c, rfl, _⟩ := h
    rfl
  · obtain ⟨k, n, c, rfl, hk, q⟩ := h
    refine ⟨_, (pss_cons (ps_set (i := 2) sc_law_right_kind.nd rfl (Or.inl rfl) (pe_disp (pps_cons pe_str pe_int (pps_cons pe_str pe_int (pps_cons pe_str pe_int (pps_cons pe_str pe_int (pps_cons pe_str pe_int (pps_cons pe_str pe_int (pps_cons pe_str pe_int (pps_cons pe_str pe_int pps_nil)))))))) (by rfl) (by rfl) (fun z => by cases z) (by decide)))
      (pss_cons (ps_set (i := 3) sc_law_right_kind.nd rfl (Or.inl rfl) (pe_call (ok_cell_inputs T) (hr.mono (by decide)) (by rfl) T.g_cell_inputs T.F_cell_inputs.kp T.b_cell_inputs .nil pass0 (pa_cons (pv 0) pa_nil)))
      (pss_cons (ps_if (PW.pt (pw_or (pt_not (pt_val (pe_call (ok_law_is_integer T) (hr.mono (by decide)) (by rfl) T.g_law_is_integer T.F_law_is_integer.kp T.b_law_is_integer .nil pass0 (pa_cons (pv 3) pa_nil)))) (pw_or1 (pt_cmpR op_ne (pv 3) (pe_dget (hu_of hr) (pv 2) (pv 0) (fun _ _ => rfl)) (nomark _)))))
      (pss_one (ps_ret pe_bl))
      pss_nil)
      (pss_cons (ps_if (pt_cmpR op_eq (pv 0) pe_str (nomark _))
      (pss_one (ps_ret pe_bl))
      pss_nil)
      (pss_cons (ps_set (i := 4) sc_law_right_kind.nd rfl (Or.inl rfl) (pe_lst pa_nil))
      (pss_cons (ps_for PassesOwn.never rfl (pi_range1 rfl T.z_range (pa_cons (pv 3) pa_nil)) (pg_name (i := 5) sc_law_right_kind.nd rfl (Or.inl rfl))
      (pss_cons (ps_expr (pe_bm PySem.F.plainAttrs_list PySem.F.slot_list_append PySem.F.type_list_append mt_append (pv 4) (pa_cons (pe_op op_mod (pe_callTy call_int1 (by rfl) T.z_int (by decide +kernel) (pa_cons (pv 1) pa_nil)) pe_int) pa_nil)))
      (pss_one (ps_set (i := 1) sc_law_right_kind.nd rfl (Or.inl rfl) (pe_op op_fdivW (pv 1) pe_int)))))
      (pss_cons (ps_set (i := 6) sc_law_right_kind.nd rfl (Or.inl rfl) (pe_callTy call_list_of (by rfl) T.z_list (by decide +kernel) (pa_cons (pv 4) pa_nil)))
      (pss_cons (ps_set (i := 7) sc_law_right_kind.nd rfl (Or.inl rfl) (pe_call (ok_cell_value T) (hr.mono (by decide)) (by rfl) T.g_cell_value T.F_cell_value.kp T.b_cell_value .nil pass0 (pa_cons (pv 0) (pa_cons (pv 6) pa_nil))))
      (pss_one (ps_ret (pe_and (pe_call (ok_law_is_integer T) (hr.mono (by decide)) (by rfl) T.g_law_is_integer T.F_law_is_integer.kp T.b_law_is_integer .nil pass0 (pa_cons (pv 7) pa_nil)) (pe_and (pe_cmpR op_eq (pv 7) (pe_call (ok_law_due T) (hr.mono (by decide)) (by rfl) T.g_law_due T.F_law_due.kp T.b_law_due .nil pass0 (pa_cons (pv 0) (pa_cons (pv 4) pa_nil))) (nomark _)) (pe_one (pe_cmpR (op_eqD (hu64 hr)) (pv 6) (pv 4) (nomark _))))))))))))))), ?_⟩
    refine a_setDC kinds8 (by decide) (Ex.refl H) (fun d H1 hd e1 => ?_)
    refine a_set e1 (ev_call1 (z := .int c) (ea_cons (ev_var rfl) ea_nil) fun H1 _ Q hq E => ⟨k, c, rfl, hk, hq⟩) (fun H2 e2 => ?_)
    have hv : valV (mergeK [] (kinds8.map fun x => ((Sum.inr x.1 : Key), V.int x.2))) (Sum.inr k) = some (V.int c) := by
      rcases kinds_cases hk with ⟨rfl, rfl⟩ | ⟨rfl, rfl⟩ | ⟨rfl, rfl⟩ | ⟨rfl, rfl⟩ | ⟨rfl, rfl⟩ | ⟨rfl, rfl⟩ | ⟨rfl, rfl⟩ | ⟨rfl, rfl⟩ <;> decide +kernel
    refine a_when e2 (b := false) (et_is (et_or (et_not (et_B (ev_call1 (z := .bl true) (ea_cons (ev_var rfl) ea_nil) fun H1 _ Q hq E => ⟨c, rfl, hq⟩))) fun _ => et_test (ev_op (ev_var rfl) (ev_dget (k := Sum.inr k) (ev_var rfl) (ev_var rfl) upd_same hv) (rv_ne rfl))) (by rw [decI rfl]; rfl)) (fun hb => nomatch hb) (fun _ H3 e3 => ?_)
    refine a_when e3 (et_test (ev_op (ev_var rfl) ev_c (rv_eq rfl))) (fun hb H4 e4 => ?_) (fun hb H4 e4 => ?_)
    · exact a_ret e4 ev_c fun H5 e5 => q H5 ((Ex.new hd).trans e5)
    rw [dec_str] at hb
    have nl : k ≠ "latch" := of_decide_eq_false hb
    have hc : 0 ≤ c ∧ c ≤ 3 ∧ (c = 0 → k = "tie0" ∨ k = "tie1") := by
      rcases kinds_cases hk with ⟨rfl, rfl⟩ | ⟨rfl, rfl⟩ | ⟨rfl, rfl⟩ | ⟨rfl, rfl⟩ | ⟨rfl, rfl⟩ | ⟨rfl, rfl⟩ | ⟨rfl, rfl⟩ | ⟨rfl, rfl⟩ <;> refine ⟨by decide, by decide, fun h => ?_⟩ <;> first | exact .inl rfl | exact .inr rfl | cases h
    have sH : Ex H (upd H d (.dK (mergeK [] (kinds8.map fun x => ((Sum.inr x.1 : Key), V.int x.2))))) := Ex.new hd
    generalize upd H d _ = G0 at e4 sH
    refine a_setL e4 (el_lst ea_nil (by decide)) (fun p H5 hp e5 => ?_)
    refine a_forR (n := c) e5 (ea_cons (ev_var rfl) ea_nil) ⟨hc.1, by omega⟩
      (fun i σ' H' => ∃ (m : Int) (y : Option V) (bs : List Int), σ' = [some (.str k), some (.int m), some (.ref d), some (.int c), some (.ref p), y, none, none] ∧ bs.length = i ∧ Bits bs ∧ Ex (upd G0 p (.lst (bs.map V.int))) H')
      (fun H6 e6 => ⟨n, none, [], rfl, rfl, fun b hb => absurd hb List.not_mem_nil, e6⟩) ?_ ?_
    · rintro i σ' H' hi ⟨m, y, bs, rfl, hl, hB, e6⟩
      refine a_app (v := .int (m % 2)) e6 (ev_var rfl) upd_same (ev_op (ev_int1 (ev_var rfl)) ev_c (rv_I (by decide))) (by rw [List.length_map, hl]; omega) (fun H7 e7 => ?_)
      rw [upd_upd] at e7
      refine a_set1 e7 (ev_op (ev_var rfl) ev_c (rv_I (wide_div (b := 64) (by decide) (by decide) (by decide) (by decide)))) (fun H8 e8 => ?_)
      refine ⟨m / 2, _, bs ++ [m % 2], rfl, by rw [List.length_append, hl]; rfl, fun b hb => ?_, ?_⟩
      · rcases List.mem_append.mp hb with hb | hb
        · exact hB b hb
        · have := List.mem_singleton.mp hb
          omega
      · rw [List.map_append]
        exact e8
    · rintro σ' H' ⟨m, y, bs, rfl, hl, hB, e6⟩
      have hS : SqL K (upd G0 p (.lst (bs.map V.int))) p (bs.map V.int) := sq_of upd_same
      have hne : k ≠ "tie0" → k ≠ "tie1" → bs ≠ [] := fun h0 h1 z => by
        subst z
        have c0 : c = 0 := by
          have : (0 : Nat) = c.toNat := hl
          omega
        rcases hc.2.2 c0 with h | h
        · exact h0 h
        · exact h1 h
      have sH2 : Ex H (upd G0 p (.lst (bs.map V.int))) := sH.trans (Ex.new hp)
      generalize upd G0 p (.lst (bs.map V.int)) = G1 at e6 hS sH2
      refine a_setL e6 (el_listL (ev_var rfl) hS) (fun r H7 hr7 e7 => ?_)
      have hS2 : SqL K (upd G1 r (.lst (bs.map V.int))) p (bs.map V.int) := ex_l (Ex.new hr7) hS
      have hS3 : SqL K (upd G1 r (.lst (bs.map V.int))) r (bs.map V.int) := sq_of upd_same
      have sH3 : Ex H (upd G1 r (.lst (bs.map V.int))) := sH2.trans (Ex.new hr7)
      generalize upd G1 r (.lst (bs.map V.int)) = G2 at e7 hS2 hS3 sH3
      refine a_set e7 (ev_call1 (z := .int (cellV k bs)) (ea_cons (ev_var rfl) (ea_cons (ev_var rfl) ea_nil)) fun H1 x1 Q hq E => ⟨k, r, bs, rfl, ex_l x1 hS3, hB, hne, hq⟩) (fun H8 e8 => ?_)
      refine a_ret e8 (v := .bl true) (ev_andV (a := true) (b := true) (ev_call1 (z := .bl true) (ea_cons (ev_var rfl) ea_nil) fun H1 _ Q hq E => ⟨_, rfl, hq⟩) fun _ => ev_andV (a := true) (b := true) (ev_is (ev_op (ev_var rfl) (ev_call1 (z := .int (cellV k bs)) (ea_cons (ev_var rfl) (ea_cons (ev_var rfl) ea_nil)) fun H1 x1 Q hq E => ⟨k, c, p, bs, rfl, hk, nl, ex_l x1 hS2, hB, hq⟩) (rv_eq rfl)) (by rw [decI rfl])) fun _ => ev_is (ev_op (ev_var rfl) (ev_var rfl) (rv_eqInts hS3 hS2)) (by simp)) (fun H9 e9 => q H9 (sH3.trans e9))

/-- parts = _law_parts(e, [sizes]) -/
theorem en_parts {σ : L2.St} {G : Hp} {ta tb : TE} {E : XK} {c : Int} {sizes : List Int} (h1 : Ev ta σ G (.int c)) (h2 : ∀ H1, Ex G H1 → EvL tb σ H1 (sizes.map V.int)) (hl : sizes.length ≤ 1000) (hp : ∀ s ∈ sizes, 0 < s ∧ s ≤ 1000000000) :
    EvN (tCall (sp_law_parts K) [] E (tCons ta (tCons tb tNil))) σ G (fun xs => ∃ ns, xs = ns.map V.int ∧ Draw ns sizes) :=
  en_callL h1 h2 fun p H1 _ hp1 Q q E => ⟨c, p, sizes, rfl, sq_of hp1, hl, hp, fun ns hd r H2 hr e2 h2 => q _ r H2 ⟨ns, rfl, hd⟩ hr e2 h2⟩
def spLaw (K : PySem.W.Frag) : Sp := fun vs H Q _ => ∃ (a : Addr) (ns : List Int), vs = [.ref a] ∧ SqL K H a (ns.map V.int) ∧ ns.length ≤ 63 ∧ ∀ H', Q (.bl true) H'

theorem ok_law (T : Top K mg w a) : FnOk P w K mg base CX0 3 a.f_law a.d_law ["script"] (spLaw K) := by
  refine T.F_law.ok sc_law (fun vs H Q E h => ?_) (fun cdv A outer s H vs Q E hr h => ?_)
  · obtain ⟨l, ns, rfl, _⟩ := h
    rfl
  · obtain ⟨l, ns, rfl, hS, hlen, q⟩ := h
    refine ⟨_, (pss_cons (ps_set (i := 1) sc_law.nd rfl (Or.inl rfl) (pe_lst (pa_cons pe_str (pa_cons pe_str (pa_cons pe_str (pa_cons pe_str (pa_cons pe_str (pa_cons pe_str (pa_cons pe_str (pa_cons pe_str pa_nil))))))))))
      (pss_cons (ps_set (i := 2) sc_law.nd rfl (Or.inl rfl) (pe_call (ok_law_parts T) (hr.mono (by decide)) (by rfl) T.g_law_parts T.F_law_parts.kp T.b_law_parts .nil pass0 (pa_cons (pe_call (ok_law_cell T) (hr.mono (by decide)) (by rfl) T.g_law_cell T.F_law_cell.kp T.b_law_cell .nil pass0 (pa_cons (pv 0) (pa_cons pe_int pa_nil))) (pa_cons (pe_lst (pa_cons pe_int (pa_cons pe_int (pa_cons pe_int pa_nil)))) pa_nil))))
      (pss_cons (ps_if (pt_cmpR op_gt (pe_ix ix_list (pv 2) pe_int (fun _ _ => rfl)) pe_int (nomark _))
      (pss_one (ps_ret (pe_call (ok_law_right_kind T) (hr.mono (by decide)) (by rfl) T.g_law_right_kind T.F_law_right_kind.kp T.b_law_right_kind .nil pass0 (pa_cons (pe_ix ix_list (pv 1) (pe_ix ix_list (pv 2) pe_int (fun _ _ => rfl)) (fun _ _ => rfl)) (pa_cons (pe_ix ix_list (pv 2) pe_int (fun _ _ => rfl)) pa_nil)))))
      pss_nil)
      (pss_cons (ps_for PassesOwn.never rfl (pi_list (pv 1)) (pg_name (i := 3) sc_law.nd rfl (Or.inl rfl))
      (pss_one (ps_if (pt_not (pt_val (pe_call (ok_law_right_kind T) (hr.mono (by decide)) (by rfl) T.g_law_right_kind T.F_law_right_kind.kp T.b_law_right_kind .nil pass0 (pa_cons (pv 3) (pa_cons (pe_ix ix_list (pv 2) pe_int (fun _ _ => rfl)) pa_nil)))))
      (pss_one (ps_ret pe_bl))
      pss_nil)))
      (pss_one (ps_ret pe_bl)))))), ?_⟩
    refine a_setL (Ex.refl H) (xs := kinds8.map fun x => V.str x.1) (el_lst (ea_cons ev_c (ea_cons ev_c (ea_cons ev_c (ea_cons ev_c (ea_cons ev_c (ea_cons ev_c (ea_cons ev_c (ea_cons ev_c ea_nil)))))))) (by decide)) (fun p H1 hp e1 => ?_)
    refine a_setN e1 (en_parts (sizes := [8, 8, 8]) (ev_call1 (z := .int (cellOf ns 0)) (ea_cons (ev_var rfl) (ea_cons ev_c ea_nil)) fun H1 x1 Q hq E => ⟨l, ns, 0, rfl, ex_l x1 (ex_l (Ex.new hp) hS), hq⟩) (fun H1 _ => el_lst (ea_cons ev_c (ea_cons ev_c (ea_cons ev_c ea_nil))) (by decide)) (by decide) (by decide)) (fun xs r H2 hP hr2 e2 => ?_)
    obtain ⟨ps, rfl, hd⟩ := hP
    have hpl : ps.length = 3 := hd.len
    have d0 := hd.at_ 0 (by decide)
    have hK : SqL K (upd (upd H p (.lst (kinds8.map fun x => V.str x.1))) r (.lst (ps.map V.int))) p (kinds8.map fun x => V.str x.1) := ex_l (Ex.new hr2) (sq_of upd_same)
    have hPs : SqL K (upd (upd H p (.lst (kinds8.map fun x => V.str x.1))) r (.lst (ps.map V.int))) r (ps.map V.int) := sq_of upd_same
    generalize upd (upd H p (.lst (kinds8.map fun x => V.str x.1))) r (.lst (ps.map V.int)) = G at e2 hK hPs
    have at_ : ∀ k : Nat, k < 3 → atI (ps.map V.int) (k : Int) = some (.int (ps.getD k 0)) := fun k hk => at_map (by omega)
    have kt : ∀ {k : Nat} {x : V}, (kinds8.map fun x => V.str x.1)[k]? = some x → ∃ s c, x = .str s ∧ (s, c) ∈ kinds8 := fun {k x} h => by
      rw [List.getElem?_map] at h
      cases g : kinds8[k]? with
      | none => rw [g] at h; cases h
      | some y =>
        rw [g] at h
        exact ⟨y.1, y.2, (Option.some.inj h).symm, List.mem_of_getElem? g⟩
    refine a_when e2 (et_test (ev_op (ev_op (ev_var rfl) ev_c (rv_ixL hPs (at_ 2 (by decide)))) ev_c rv_I0)) (fun hb H3 e3 => ?_) (fun hb H3 e3 => ?_)
    · obtain ⟨j, hj⟩ : ∃ j : Nat, ps.getD 0 0 = (j : Int) := ⟨(ps.getD 0 0).toNat, by omega⟩
      have hj8 : j < 8 := by
        have : ps.getD 0 0 < 8 := d0.2
        omega
      have hjk : j < (kinds8.map fun x => V.str x.1).length := hj8
      obtain ⟨s, c, hs, hk⟩ := kt (List.getElem?_eq_getElem hjk)
      have ha : atI (kinds8.map fun x => V.str x.1) (ps.getD 0 0) = some (.str s) := by
        rw [hj, ← hs]
        exact atI_nat (List.getElem?_eq_getElem hjk)
      refine a_ret e3 (ev_call1 (z := .bl true) (ea_cons (ev_op (ev_var rfl) (ev_op (ev_var rfl) ev_c (rv_ixL hPs (at_ 0 (by decide)))) (rv_ixL hK ha)) (ea_cons (ev_op (ev_var rfl) ev_c (rv_ixL hPs (at_ 1 (by decide)))) ea_nil)) fun H1 _ Q hq E => ⟨s, _, c, rfl, hk, hq⟩) (fun H4 _ => q H4)
    · refine a_forL e3 (ev_var rfl) hK (fun i σ' H' => ∃ y, σ' = [some (.ref l), some (.ref p), some (.ref r), y] ∧ Ex G H') (fun H4 e4 => ⟨none, rfl, e4⟩) (fun i σ' H' _ ⟨_, _, e4⟩ => ex_l e4 hK) ?_ ?_
      · rintro i x σ' H' hx ⟨y, rfl, e4⟩
        obtain ⟨s, c, rfl, hk⟩ := kt hx
        refine a_when1 e4 (b := false) (et_not (et_B (ev_call1 (z := .bl true) (ea_cons (ev_var rfl) (ea_cons (ev_op (ev_var rfl) ev_c (rv_ixL hPs (at_ 1 (by decide)))) ea_nil)) fun H1 _ Q hq E => ⟨s, _, c, rfl, hk, hq⟩))) (fun hb => nomatch hb) (fun _ H5 e5 => ⟨_, rfl, e5⟩)
      · rintro σ' H' ⟨y, rfl, e4⟩
        exact a_ret e4 ev_c (fun H5 _ => q H5)


end
theorem all_mk {l : PySem.W.OpenLaw} {w : World} {K : PySem.W.Frag} {h : Heap} {mg : Str → Option Value} {fa : Addr} (X : K.In h) (G : h.Ns mainGlobals mg) (hfa : mg "law" = some (.ref fa))
    {f_cell_inputs : Addr} {od_cell_inputs an_cell_inputs : Option Addr} {sl_cell_inputs : Array (Option Value)} {oc_cell_inputs kV_cell_inputs dc_cell_inputs pm_cell_inputs cd_cell_inputs ct_cell_inputs : Value}
    {f_cell_value : Addr} {od_cell_value an_cell_value : Option Addr} {sl_cell_value : Array (Option Value)} {oc_cell_value kV_cell_value dc_cell_value pm_cell_value cd_cell_value ct_cell_value : Value}
    {f_law_cell : Addr} {od_law_cell an_law_cell : Option Addr} {sl_law_cell : Array (Option Value)} {oc_law_cell kV_law_cell dc_law_cell pm_law_cell cd_law_cell ct_law_cell : Value}
    {f_law_parts : Addr} {od_law_parts an_law_parts : Option Addr} {sl_law_parts : Array (Option Value)} {oc_law_parts kV_law_parts dc_law_parts pm_law_parts cd_law_parts ct_law_parts : Value}
    {f_law_is_integer : Addr} {od_law_is_integer an_law_is_integer : Option Addr} {sl_law_is_integer : Array (Option Value)} {oc_law_is_integer kV_law_is_integer dc_law_is_integer pm_law_is_integer cd_law_is_integer ct_law_is_integer : Value}
    {f_law_due : Addr} {od_law_due an_law_due : Option Addr} {sl_law_due : Array (Option Value)} {oc_law_due kV_law_due dc_law_due pm_law_due cd_law_due ct_law_due : Value}
    {f_law_right_kind : Addr} {od_law_right_kind an_law_right_kind : Option Addr} {sl_law_right_kind : Array (Option Value)} {oc_law_right_kind kV_law_right_kind dc_law_right_kind pm_law_right_kind cd_law_right_kind ct_law_right_kind : Value}
    {f_law : Addr} {od_law an_law : Option Addr} {sl_law : Array (Option Value)} {oc_law kV_law dc_law pm_law cd_law ct_law : Value}
    {v_CELL_INPUTS : Addr} {es_CELL_INPUTS : Array DictEntry} {m_CELL_INPUTS : Nat}
    {t_CELL_INPUTS_0 : Tok}
    {t_CELL_INPUTS_1 : Tok}
    {t_CELL_INPUTS_2 : Tok}
    {t_CELL_INPUTS_3 : Tok}
    {t_CELL_INPUTS_4 : Tok}
    {t_CELL_INPUTS_5 : Tok}
    {t_CELL_INPUTS_6 : Tok}
    {t_CELL_INPUTS_7 : Tok}
    (a_cell_inputs : PySem.W.nsIn K mainGlobals "cell_inputs" = some (some (.ref f_cell_inputs)))
    (l_cell_inputs : K.lookup f_cell_inputs = some ⟨oc_cell_inputs, od_cell_inputs, .func (PySem.W.fnOf "cell_inputs" "cell_inputs" (defArgs s_cell_inputs) (defBody s_cell_inputs) (defScope s_cell_inputs) .none kV_cell_inputs dc_cell_inputs pm_cell_inputs an_cell_inputs cd_cell_inputs ct_cell_inputs), sl_cell_inputs⟩)
    (c_cell_inputs : PySem.W.codeIn K cd_cell_inputs "cell_inputs" = true)
    (k_cell_inputs : PySem.W.keepIn K (.ref f_cell_inputs) = true)
    (a_cell_value : PySem.W.nsIn K mainGlobals "cell_value" = some (some (.ref f_cell_value)))
    (l_cell_value : K.lookup f_cell_value = some ⟨oc_cell_value, od_cell_value, .func (PySem.W.fnOf "cell_value" "cell_value" (defArgs s_cell_value) (defBody s_cell_value) (defScope s_cell_value) .none kV_cell_value dc_cell_value pm_cell_value an_cell_value cd_cell_value ct_cell_value), sl_cell_value⟩)
    (c_cell_value : PySem.W.codeIn K cd_cell_value "cell_value" = true)
    (k_cell_value : PySem.W.keepIn K (.ref f_cell_value) = true)
    (a_law_cell : PySem.W.nsIn K mainGlobals "_law_cell" = some (some (.ref f_law_cell)))
    (l_law_cell : K.lookup f_law_cell = some ⟨oc_law_cell, od_law_cell, .func (PySem.W.fnOf "_law_cell" "_law_cell" (defArgs s_law_cell) (defBody s_law_cell) (defScope s_law_cell) .none kV_law_cell dc_law_cell pm_law_cell an_law_cell cd_law_cell ct_law_cell), sl_law_cell⟩)
    (c_law_cell : PySem.W.codeIn K cd_law_cell "_law_cell" = true)
    (k_law_cell : PySem.W.keepIn K (.ref f_law_cell) = true)
    (a_law_parts : PySem.W.nsIn K mainGlobals "_law_parts" = some (some (.ref f_law_parts)))
    (l_law_parts : K.lookup f_law_parts = some ⟨oc_law_parts, od_law_parts, .func (PySem.W.fnOf "_law_parts" "_law_parts" (defArgs s_law_parts) (defBody s_law_parts) (defScope s_law_parts) .none kV_law_parts dc_law_parts pm_law_parts an_law_parts cd_law_parts ct_law_parts), sl_law_parts⟩)
    (c_law_parts : PySem.W.codeIn K cd_law_parts "_law_parts" = true)
    (k_law_parts : PySem.W.keepIn K (.ref f_law_parts) = true)
    (a_law_is_integer : PySem.W.nsIn K mainGlobals "_law_is_integer" = some (some (.ref f_law_is_integer)))
    (l_law_is_integer : K.lookup f_law_is_integer = some ⟨oc_law_is_integer, od_law_is_integer, .func (PySem.W.fnOf "_law_is_integer" "_law_is_integer" (defArgs s_law_is_integer) (defBody s_law_is_integer) (defScope s_law_is_integer) .none kV_law_is_integer dc_law_is_integer pm_law_is_integer an_law_is_integer cd_law_is_integer ct_law_is_integer), sl_law_is_integer⟩)
    (c_law_is_integer : PySem.W.codeIn K cd_law_is_integer "_law_is_integer" = true)
    (k_law_is_integer : PySem.W.keepIn K (.ref f_law_is_integer) = true)
    (a_law_due : PySem.W.nsIn K mainGlobals "_law_due" = some (some (.ref f_law_due)))
    (l_law_due : K.lookup f_law_due = some ⟨oc_law_due, od_law_due, .func (PySem.W.fnOf "_law_due" "_law_due" (defArgs s_law_due) (defBody s_law_due) (defScope s_law_due) .none kV_law_due dc_law_due pm_law_due an_law_due cd_law_due ct_law_due), sl_law_due⟩)
    (c_law_due : PySem.W.codeIn K cd_law_due "_law_due" = true)
    (k_law_due : PySem.W.keepIn K (.ref f_law_due) = true)
    (a_law_right_kind : PySem.W.nsIn K mainGlobals "_law_right_kind" = some (some (.ref f_law_right_kind)))
    (l_law_right_kind : K.lookup f_law_right_kind = some ⟨oc_law_right_kind, od_law_right_kind, .func (PySem.W.fnOf "_law_right_kind" "_law_right_kind" (defArgs s_law_right_kind) (defBody s_law_right_kind) (defScope s_law_right_kind) .none kV_law_right_kind dc_law_right_kind pm_law_right_kind an_law_right_kind cd_law_right_kind ct_law_right_kind), sl_law_right_kind⟩)
    (c_law_right_kind : PySem.W.codeIn K cd_law_right_kind "_law_right_kind" = true)
    (k_law_right_kind : PySem.W.keepIn K (.ref f_law_right_kind) = true)
    (a_law : PySem.W.nsIn K mainGlobals "law" = some (some (.ref f_law)))
    (l_law : K.lookup f_law = some ⟨oc_law, od_law, .func (PySem.W.fnOf "law" "law" (defArgs s_law) (defBody s_law) (defScope s_law) .none kV_law dc_law pm_law an_law cd_law ct_law), sl_law⟩)
    (c_law : PySem.W.codeIn K cd_law "law" = true)
    (k_law : PySem.W.keepIn K (.ref f_law) = true)
    (z_bool : PySem.W.nsIn K mainGlobals "bool" = some none)
    (z_int : PySem.W.nsIn K mainGlobals "int" = some none)
    (z_isinstance : PySem.W.nsIn K mainGlobals "isinstance" = some none)
    (z_len : PySem.W.nsIn K mainGlobals "len" = some none)
    (z_list : PySem.W.nsIn K mainGlobals "list" = some none)
    (z_max : PySem.W.nsIn K mainGlobals "max" = some none)
    (z_min : PySem.W.nsIn K mainGlobals "min" = some none)
    (z_range : PySem.W.nsIn K mainGlobals "range" = some none)
    (z_sum : PySem.W.nsIn K mainGlobals "sum" = some none)
    (n_CELL_INPUTS : PySem.W.nsIn K mainGlobals "CELL_INPUTS" = some (some (.ref v_CELL_INPUTS)))
    (ld_CELL_INPUTS : K.lookup v_CELL_INPUTS = some ⟨.type "dict", none, .dict es_CELL_INPUTS m_CELL_INPUTS, #[]⟩)
    (kk_CELL_INPUTS : PySem.W.KeysLit w.params es_CELL_INPUTS.toList)
    (e_CELL_INPUTS_0 : PySem.W.nsIn K v_CELL_INPUTS "not" = some (some (.int 1 t_CELL_INPUTS_0)))
    (e_CELL_INPUTS_1 : PySem.W.nsIn K v_CELL_INPUTS "nand2" = some (some (.int 2 t_CELL_INPUTS_1)))
    (e_CELL_INPUTS_2 : PySem.W.nsIn K v_CELL_INPUTS "nand3" = some (some (.int 3 t_CELL_INPUTS_2)))
    (e_CELL_INPUTS_3 : PySem.W.nsIn K v_CELL_INPUTS "nor2" = some (some (.int 2 t_CELL_INPUTS_3)))
    (e_CELL_INPUTS_4 : PySem.W.nsIn K v_CELL_INPUTS "nor3" = some (some (.int 3 t_CELL_INPUTS_4)))
    (e_CELL_INPUTS_5 : PySem.W.nsIn K v_CELL_INPUTS "latch" = some (some (.int 1 t_CELL_INPUTS_5)))
    (e_CELL_INPUTS_6 : PySem.W.nsIn K v_CELL_INPUTS "tie0" = some (some (.int 0 t_CELL_INPUTS_6)))
    (e_CELL_INPUTS_7 : PySem.W.nsIn K v_CELL_INPUTS "tie1" = some (some (.int 0 t_CELL_INPUTS_7)))
    : ∃ fd : FuncData, (∀ (s : Shared) (v : Value), BindsTo s fd ⟨[v], []⟩ [("script", v)]) ∧ ∀ base : Heap, K.In base → base.Ns mainGlobals mg → FnOk l.prog w K mg base CX0 3 fa fd ["script"] (spLaw K) := by
  have e := hfa.symm.trans (PySem.W.mg_of X G a_law)
  cases e
  have F_cell_inputs := fun_mk (st := s_cell_inputs) l_cell_inputs c_cell_inputs k_cell_inputs
  have b_cell_inputs := F_cell_inputs.binds (ps := ["kind"]) fun _ _ _ _ _ _ us hl => match us, hl with | [_], _ => rfl
  have F_cell_value := fun_mk (st := s_cell_value) l_cell_value c_cell_value k_cell_value
  have b_cell_value := F_cell_value.binds (ps := ["kind", "values"]) fun _ _ _ _ _ _ us hl => match us, hl with | [_, _], _ => rfl
  have F_law_cell := fun_mk (st := s_law_cell) l_law_cell c_law_cell k_law_cell
  have b_law_cell := F_law_cell.binds (ps := ["script", "k"]) fun _ _ _ _ _ _ us hl => match us, hl with | [_, _], _ => rfl
  have F_law_parts := fun_mk (st := s_law_parts) l_law_parts c_law_parts k_law_parts
  have b_law_parts := F_law_parts.binds (ps := ["cell", "sizes"]) fun _ _ _ _ _ _ us hl => match us, hl with | [_, _], _ => rfl
  have F_law_is_integer := fun_mk (st := s_law_is_integer) l_law_is_integer c_law_is_integer k_law_is_integer
  have b_law_is_integer := F_law_is_integer.binds (ps := ["actual"]) fun _ _ _ _ _ _ us hl => match us, hl with | [_], _ => rfl
  have F_law_due := fun_mk (st := s_law_due) l_law_due c_law_due k_law_due
  have b_law_due := F_law_due.binds (ps := ["kind", "bits"]) fun _ _ _ _ _ _ us hl => match us, hl with | [_, _], _ => rfl
  have F_law_right_kind := fun_mk (st := s_law_right_kind) l_law_right_kind c_law_right_kind k_law_right_kind
  have b_law_right_kind := F_law_right_kind.binds (ps := ["kind", "number"]) fun _ _ _ _ _ _ us hl => match us, hl with | [_, _], _ => rfl
  have F_law := fun_mk (st := s_law) l_law c_law k_law
  have b_law := F_law.binds (ps := ["script"]) fun _ _ _ _ _ _ us hl => match us, hl with | [_], _ => rfl
  let a : A := { f_cell_inputs := f_cell_inputs, d_cell_inputs := PySem.W.fnOf "cell_inputs" "cell_inputs" (defArgs s_cell_inputs) (defBody s_cell_inputs) (defScope s_cell_inputs) .none kV_cell_inputs dc_cell_inputs pm_cell_inputs an_cell_inputs cd_cell_inputs ct_cell_inputs, f_cell_value := f_cell_value, d_cell_value := PySem.W.fnOf "cell_value" "cell_value" (defArgs s_cell_value) (defBody s_cell_value) (defScope s_cell_value) .none kV_cell_value dc_cell_value pm_cell_value an_cell_value cd_cell_value ct_cell_value, f_law_cell := f_law_cell, d_law_cell := PySem.W.fnOf "_law_cell" "_law_cell" (defArgs s_law_cell) (defBody s_law_cell) (defScope s_law_cell) .none kV_law_cell dc_law_cell pm_law_cell an_law_cell cd_law_cell ct_law_cell, f_law_parts := f_law_parts, d_law_parts := PySem.W.fnOf "_law_parts" "_law_parts" (defArgs s_law_parts) (defBody s_law_parts) (defScope s_law_parts) .none kV_law_parts dc_law_parts pm_law_parts an_law_parts cd_law_parts ct_law_parts, f_law_is_integer := f_law_is_integer, d_law_is_integer := PySem.W.fnOf "_law_is_integer" "_law_is_integer" (defArgs s_law_is_integer) (defBody s_law_is_integer) (defScope s_law_is_integer) .none kV_law_is_integer dc_law_is_integer pm_law_is_integer an_law_is_integer cd_law_is_integer ct_law_is_integer, f_law_due := f_law_due, d_law_due := PySem.W.fnOf "_law_due" "_law_due" (defArgs s_law_due) (defBody s_law_due) (defScope s_law_due) .none kV_law_due dc_law_due pm_law_due an_law_due cd_law_due ct_law_due, f_law_right_kind := f_law_right_kind, d_law_right_kind := PySem.W.fnOf "_law_right_kind" "_law_right_kind" (defArgs s_law_right_kind) (defBody s_law_right_kind) (defScope s_law_right_kind) .none kV_law_right_kind dc_law_right_kind pm_law_right_kind an_law_right_kind cd_law_right_kind ct_law_right_kind, f_law := fa, d_law := PySem.W.fnOf "law" "law" (defArgs s_law) (defBody s_law) (defScope s_law) .none kV_law dc_law pm_law an_law cd_law ct_law, v_CELL_INPUTS := v_CELL_INPUTS }
  have T : Top K mg w a := { F_cell_inputs := F_cell_inputs, b_cell_inputs := b_cell_inputs, g_cell_inputs := PySem.W.mg_of X G a_cell_inputs, F_cell_value := F_cell_value, b_cell_value := b_cell_value, g_cell_value := PySem.W.mg_of X G a_cell_value, F_law_cell := F_law_cell, b_law_cell := b_law_cell, g_law_cell := PySem.W.mg_of X G a_law_cell, F_law_parts := F_law_parts, b_law_parts := b_law_parts, g_law_parts := PySem.W.mg_of X G a_law_parts, F_law_is_integer := F_law_is_integer, b_law_is_integer := b_law_is_integer, g_law_is_integer := PySem.W.mg_of X G a_law_is_integer, F_law_due := F_law_due, b_law_due := b_law_due, g_law_due := PySem.W.mg_of X G a_law_due, F_law_right_kind := F_law_right_kind, b_law_right_kind := b_law_right_kind, g_law_right_kind := PySem.W.mg_of X G a_law_right_kind, F_law := F_law, b_law := b_law, g_law := PySem.W.mg_of X G a_law, z_bool := PySem.W.mg_none_of X G z_bool, z_int := PySem.W.mg_none_of X G z_int, z_isinstance := PySem.W.mg_none_of X G z_isinstance, z_len := PySem.W.mg_none_of X G z_len, z_list := PySem.W.mg_none_of X G z_list, z_max := PySem.W.mg_none_of X G z_max, z_min := PySem.W.mg_none_of X G z_min, z_range := PySem.W.mg_none_of X G z_range, z_sum := PySem.W.mg_none_of X G z_sum, c_CELL_INPUTS := PySem.W.mg_of X G n_CELL_INPUTS, e_CELL_INPUTS_0 := ⟨_, _, _, ld_CELL_INPUTS, kk_CELL_INPUTS, e_CELL_INPUTS_0, _, rfl⟩, e_CELL_INPUTS_1 := ⟨_, _, _, ld_CELL_INPUTS, kk_CELL_INPUTS, e_CELL_INPUTS_1, _, rfl⟩, e_CELL_INPUTS_2 := ⟨_, _, _, ld_CELL_INPUTS, kk_CELL_INPUTS, e_CELL_INPUTS_2, _, rfl⟩, e_CELL_INPUTS_3 := ⟨_, _, _, ld_CELL_INPUTS, kk_CELL_INPUTS, e_CELL_INPUTS_3, _, rfl⟩, e_CELL_INPUTS_4 := ⟨_, _, _, ld_CELL_INPUTS, kk_CELL_INPUTS, e_CELL_INPUTS_4, _, rfl⟩, e_CELL_INPUTS_5 := ⟨_, _, _, ld_CELL_INPUTS, kk_CELL_INPUTS, e_CELL_INPUTS_5, _, rfl⟩, e_CELL_INPUTS_6 := ⟨_, _, _, ld_CELL_INPUTS, kk_CELL_INPUTS, e_CELL_INPUTS_6, _, rfl⟩, e_CELL_INPUTS_7 := ⟨_, _, _, ld_CELL_INPUTS, kk_CELL_INPUTS, e_CELL_INPUTS_7, _, rfl⟩ }
  exact ⟨_, fun s v => .of_eq rfl, fun base _ _ => ok_law T⟩
theorem walk {l : PySem.W.OpenLaw} {q : Program} {loose : List Str} {XP : (Str → Option Value) → Heap → Prop} {YP : World → Heap → Prop} {d : DefRec} {K : Params → PySem.W.Frag} (hn : l.most = some 63) (hdf : d.params.defaults = [])
    (hY : ∀ (w : World) (h : Heap), YP w h → (K w.params).In h)
    (F : ∀ (w : World) (mg : Str → Option Value) (fa : Addr) (h : Heap), (K w.params).In h → h.Ns mainGlobals mg → mg d.name = some (.ref fa) →
      ∃ fd : FuncData, (∀ (s : Shared) (u : Value), BindsTo s fd ⟨[u], []⟩ [("script", u)]) ∧ ∀ base : Heap, (K w.params).In base → base.Ns mainGlobals mg → FnOk l.prog w (K w.params) mg base CX0 3 fa fd ["script"] (spLaw (K w.params))) :
    PySem.W.WalkO q loose XP YP l.row.toRowW d [] (fun f vs => PySem.call f vs) :=
  L2.walk_of (n := 63) (k := 3) (x := "script") (CX := fun _ => CX0) (sp := fun w => spLaw (K w.params)) hn (by decide) hdf ⟨rfl, by decide, by decide⟩ hY F (fun _ _ a ns hl _ hS => ⟨a, ns, rfl, hS, hl, fun _ => rfl⟩) fun _ _ _ _ _ z => z
end GR

open PySem PySem.W PyProof.Rows in
set_option maxRecDepth 100000 in
set_option maxHeartbeats 0 in
theorem PySem.Challenge.cw_gatesread_k13_cell_value_holds : PySem.Challenge.rw_gatesread_k13_cell_value.Holds := by
  w_on; o_law; k_head; (case hw => w_witness2)
  k_fill
  refine GR.walk (l := PySem.Challenge.rw_gatesread_k13_cell_value) rfl rfl (fun w h Y => PySem.W.kIn_of Y) ?F
  case F =>
    intro w mg fa h KX G hmg
    refine' GR.all_mk KX G hmg ?a_cell_inputs ?l_cell_inputs ?c_cell_inputs ?k_cell_inputs ?a_cell_value ?l_cell_value ?c_cell_value ?k_cell_value ?a_law_cell ?l_law_cell ?c_law_cell ?k_law_cell ?a_law_parts ?l_law_parts ?c_law_parts ?k_law_parts ?a_law_is_integer ?l_law_is_integer ?c_law_is_integer ?k_law_is_integer ?a_law_due ?l_law_due ?c_law_due ?k_law_due ?a_law_right_kind ?l_law_right_kind ?c_law_right_kind ?k_law_right_kind ?a_law ?l_law ?c_law ?k_law ?z_bool ?z_int ?z_isinstance ?z_len ?z_list ?z_max ?z_min ?z_range ?z_sum ?n_CELL_INPUTS ?ld_CELL_INPUTS ?kk_CELL_INPUTS ?e_CELL_INPUTS_0 ?e_CELL_INPUTS_1 ?e_CELL_INPUTS_2 ?e_CELL_INPUTS_3 ?e_CELL_INPUTS_4 ?e_CELL_INPUTS_5 ?e_CELL_INPUTS_6 ?e_CELL_INPUTS_7
    (case a_cell_inputs => k_is)
    (case l_cell_inputs => k_is)
    (case c_cell_inputs => k_is)
    (case k_cell_inputs => k_is)
    (case a_cell_value => k_is)
    (case l_cell_value => k_is)
    (case c_cell_value => k_is)
    (case k_cell_value => k_is)
    (case a_law_cell => k_is)
    (case l_law_cell => k_is)
    (case c_law_cell => k_is)
    (case k_law_cell => k_is)
    (case a_law_parts => k_is)
    (case l_law_parts => k_is)
    (case c_law_parts => k_is)
    (case k_law_parts => k_is)
    (case a_law_is_integer => k_is)
    (case l_law_is_integer => k_is)
    (case c_law_is_integer => k_is)
    (case k_law_is_integer => k_is)
    (case a_law_due => k_is)
    (case l_law_due => k_is)
    (case c_law_due => k_is)
    (case k_law_due => k_is)
    (case a_law_right_kind => k_is)
    (case l_law_right_kind => k_is)
    (case c_law_right_kind => k_is)
    (case k_law_right_kind => k_is)
    (case a_law => k_is)
    (case l_law => k_is)
    (case c_law => k_is)
    (case k_law => k_is)
    (case z_bool => k_is)
    (case z_int => k_is)
    (case z_isinstance => k_is)
    (case z_len => k_is)
    (case z_list => k_is)
    (case z_max => k_is)
    (case z_min => k_is)
    (case z_range => k_is)
    (case z_sum => k_is)
    (case n_CELL_INPUTS => k_is)
    (case ld_CELL_INPUTS => k_is)
    (case kk_CELL_INPUTS => k_keys)
    (case e_CELL_INPUTS_0 => k_is)
    (case e_CELL_INPUTS_1 => k_is)
    (case e_CELL_INPUTS_2 => k_is)
    (case e_CELL_INPUTS_3 => k_is)
    (case e_CELL_INPUTS_4 => k_is)
    (case e_CELL_INPUTS_5 => k_is)
    (case e_CELL_INPUTS_6 => k_is)
    (case e_CELL_INPUTS_7 => k_is)
