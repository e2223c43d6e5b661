import PyProof.Rows.All
import Wide.All
import OpenK.AllK
import Wide.FinOn
import HandS.ForMost
import HandS.Evl
import HandS.Steps
import HandS.IsInst
import HandS.Wide
import HandS.Deep
import HandS.More
import HandS.Exc
import HandS.ExcOwn
import HandS.WordsExc
import HandS.TryOnly
import HandS.RaiseMore
import HandS.FStr
import HandS.Conv
import PySem.Challenge.RW_gatesread_k68_values_of_any_circuit
set_option Elab.async false
set_option linter.all false
set_option maxRecDepth 100000
set_option maxHeartbeats 4000000

namespace GR
open PySem PySem.Spec PyProof.Rows L2 Evl

/-! ### the known heap G: all that is known stands at G, the heap at hand extends it -/
theorem ex_upd {G H : Hp} (e : Ex G H) (l : Addr) (o : HO) : Ex (upd G l o) (upd H l o) := fun a u h => by
  by_cases q : a = l
  · subst q
    rw [upd_same] at h ⊢
    exact h
  · rw [upd_ne q] at h ⊢
    exact e a u h
theorem ex_to {G H : Hp} {p : Addr} {o : HO} (e : Ex G H) (h : H p = some o) : Ex (upd G p o) H := fun a u g => by
  by_cases q : a = p
  · subst q
    rw [upd_same] at g
    rw [h]
    exact g
  · rw [upd_ne q] at g
    exact e a u g
section
variable {K : PySem.W.Frag} {σ : L2.St} {G H H' : Hp} {ta tb te tx : TE} {t u : TT} {x y z v : V} {D : Ends} {tu tw tz : TS} {g : TG}
/-- x = e, the rest -/
theorem a_set {i : Nat} (e : Ex G H) (h : Ev te σ G v) (k : ∀ H1, Ex G H1 → tz D (σ.set i (some v)) H1) : tSeq (tAsg te (gName i)) tz D σ H :=
  h H e _ fun H1 e1 => k H1 (e.trans e1)
theorem a_setL {i : Nat} {xs : List V} (e : Ex G H) (h : EvL te σ G xs) (k : ∀ p H1, G p = none → Ex (upd G p (.lst xs)) H1 → tz D (σ.set i (some (.ref p))) H1) : tSeq (tAsg te (gName i)) tz D σ H :=
  h H e _ fun p H1 hp e1 h1 => k p H1 (fresh_back e hp) (ex_to (e.trans e1) h1)
theorem a_setU {i : Nat} {xs : List V} (e : Ex G H) (h : EvU te σ G xs) (k : ∀ p H1, G p = none → Ex (upd G p (.tup xs)) H1 → tz D (σ.set i (some (.ref p))) H1) : tSeq (tAsg te (gName i)) tz D σ H :=
  h H e _ fun p H1 hp e1 h1 => k p H1 (fresh_back e hp) (ex_to (e.trans e1) h1)
/-- if -/
theorem a_if {b : Bool} (e : Ex G H) (h : EvT t σ G b) (h1 : b = true → ∀ H1, Ex G H1 → tu D σ H1) (h2 : b = false → ∀ H1, Ex G H1 → tw D σ H1) : tIfS t tu tw D σ H :=
  h H e _ fun H1 e1 => by
    cases b with
    | true => exact h1 rfl H1 (e.trans e1)
    | false => exact h2 rfl H1 (e.trans e1)
theorem a_ifq {b : Bool} (e : Ex G H) (h : EvT t σ G b) (h1 : b = true → ∀ H1, Ex G H1 → tu { D with nx := tz D } σ H1) (h2 : b = false → ∀ H1, Ex G H1 → tw { D with nx := tz D } σ H1) : tSeq (tIfS t tu tw) tz D σ H :=
  a_if (D := { D with nx := tz D }) e h h1 h2
/-- an if without else -/
theorem a_when {b : Bool} (e : Ex G H) (h : EvT t σ G b) (h1 : b = true → ∀ H1, Ex G H1 → tu { D with nx := tz D } σ H1) (h2 : b = false → ∀ H1, Ex G H1 → tz D σ H1) : tSeq (tIfS t tu tNext) tz D σ H :=
  a_if (D := { D with nx := tz D }) e h h1 h2
theorem a_when1 {b : Bool} (e : Ex G H) (h : EvT t σ G b) (h1 : b = true → ∀ H1, Ex G H1 → tu D σ H1) (h2 : b = false → ∀ H1, Ex G H1 → D.nx σ H1) : tIfS t tu tNext D σ H :=
  a_if e h h1 h2
theorem a_ret (e : Ex G H) (h : Ev te σ G v) (k : ∀ H1, Ex G H1 → D.rt v H1) : tRet te D σ H := h H e _ fun H1 e1 => k H1 (e.trans e1)
theorem a_retL {xs : List V} (e : Ex G H) (h : EvL te σ G xs) (k : ∀ p H1, G p = none → Ex G H1 → H1 p = some (.lst xs) → D.rt (.ref p) H1) : tRet te D σ H :=
  h H e _ fun p H1 hp e1 h1 => k p H1 (fresh_back e hp) (e.trans e1) h1
theorem a_retU {xs : List V} (e : Ex G H) (h : EvU te σ G xs) (k : ∀ p H1, G p = none → Ex G H1 → H1 p = some (.tup xs) → D.rt (.ref p) H1) : tRet te D σ H :=
  h H e _ fun p H1 hp e1 h1 => k p H1 (fresh_back e hp) (e.trans e1) h1
/-- xs.append(e), the rest -/
theorem a_app {l : Addr} {xs : List V} (e : Ex G H) (ha : Ev ta σ G (.ref l)) (hl : G l = some (.lst xs)) (h : Ev te σ G v) (hz : xs.length < 100000) (k : ∀ H1, Ex (upd G l (.lst (xs ++ [v]))) H1 → tz D σ H1) :
    tSeq (tDrop (tBM K "list" rAppend ta (tCons te tNil))) tz D σ H :=
  ha H e _ fun H1 e1 => ⟨Or.inl ⟨rfl, xs, sq_of (e1 l _ (e l _ hl))⟩, h H1 (e.trans e1) _ fun H2 e2 => ⟨l, xs, v, rfl, rfl, e2 l _ (e1 l _ (e l _ hl)), sz_lt hz, k _ (ex_upd ((e.trans e1).trans e2) l _)⟩⟩
theorem a_app1 {l : Addr} {xs : List V} (e : Ex G H) (ha : Ev ta σ G (.ref l)) (hl : G l = some (.lst xs)) (h : Ev te σ G v) (hz : xs.length < 100000) (k : ∀ H1, Ex (upd G l (.lst (xs ++ [v]))) H1 → D.nx σ H1) :
    tDrop (tBM K "list" rAppend ta (tCons te tNil)) D σ H :=
  ha H e _ fun H1 e1 => ⟨Or.inl ⟨rfl, xs, sq_of (e1 l _ (e l _ hl))⟩, h H1 (e.trans e1) _ fun H2 e2 => ⟨l, xs, v, rfl, rfl, e2 l _ (e1 l _ (e l _ hl)), sz_lt hz, k _ (ex_upd ((e.trans e1).trans e2) l _)⟩⟩
theorem a_set1 {i : Nat} (e : Ex G H) (h : Ev te σ G v) (k : ∀ H1, Ex G H1 → D.nx (σ.set i (some v)) H1) : tAsg te (gName i) D σ H :=
  h H e _ fun H1 e1 => k H1 (e.trans e1)
/-- for i in range(n) -/
theorem a_forR {ta : TA} {j : Nat} {n : Int} (e : Ex G H) (h : EvA ta σ G [.int n]) (hn : 0 ≤ n ∧ n ≤ 100000) (Pv : Nat → L2.St → Hp → Prop) (h0 : ∀ H1, Ex G H1 → Pv 0 σ H1)
    (hs : ∀ (i : Nat) σ' H', (i : Int) < n → Pv i σ' H' → tu { D with nx := Pv (i + 1), ct := Pv (i + 1), bk := tz D } (σ'.set j (some (.int (i : Int)))) H') (hd : ∀ σ' H', Pv n.toNat σ' H' → tz D σ' H') : tSeq (tFor (iRng1 ta) (gName j) tu) tz D σ H :=
  s_forR1 (D := { D with nx := tz D }) (fun H1 e1 => h H1 (e.trans e1)) hn Pv (fun H1 e1 => h0 H1 (e.trans e1)) hs hd
end
end GR
namespace GR
open PySem PySem.Spec PyProof.Rows L2 Evl
section
variable {K : PySem.W.Frag} {σ : L2.St} {G H H' : Hp} {ta tb te tx : TE} {t u : TT} {x y z v : V} {D : Ends} {tu tw tz : TS} {g : TG}
/-- int(n) -/
theorem ev_int1 {i : Int} (h : Ev ta σ G (.int i)) : Ev (tCB (fun xs H Q => (∃ i, xs = [V.int i] ∧ Q (.int i) H) ∨ ∃ k, xs = [V.bl k] ∧ Q (.int (if k then 1 else 0)) H) (tCons ta tNil)) σ G (.int i) := fun H1 e Q q =>
  h H1 e _ fun H2 e2 => Or.inl ⟨i, rfl, q H2 e2⟩
theorem ev_int1b {b : Bool} (h : Ev ta σ G (.bl b)) : Ev (tCB (fun xs H Q => (∃ i, xs = [V.int i] ∧ Q (.int i) H) ∨ ∃ k, xs = [V.bl k] ∧ Q (.int (if k then 1 else 0)) H) (tCons ta tNil)) σ G (.int (if b then 1 else 0)) := fun H1 e Q q =>
  h H1 e _ fun H2 e2 => Or.inr ⟨b, rfl, q H2 e2⟩
theorem ev_lenS {p : Addr} {xs : List V} (ha : Ev ta σ G (.ref p)) (h : SqL K G p xs) : Ev (tCB (fun xs H Q => ∃ p ys, xs = [V.ref p] ∧ (SqL K H p ys ∨ SqT K H p ys) ∧ Q (.int ys.length) H) (tCons ta tNil)) σ G (.int (xs.length : Int)) := fun H1 e Q q =>
  ha H1 e _ fun H2 e2 => ⟨p, xs, rfl, Or.inl (ex_l (e.trans e2) h), q H2 e2⟩
theorem ev_lenT {p : Addr} {xs : List V} (ha : Ev ta σ G (.ref p)) (h : SqT K G p xs) : Ev (tCB (fun xs H Q => ∃ p ys, xs = [V.ref p] ∧ (SqL K H p ys ∨ SqT K H p ys) ∧ Q (.int ys.length) H) (tCons ta tNil)) σ G (.int (xs.length : Int)) := fun H1 e Q q =>
  ha H1 e _ fun H2 e2 => ⟨p, xs, rfl, Or.inr (ex_t (e.trans e2) h), q H2 e2⟩
theorem hu64 {A : Around} {k : Nat} (hr : Room k A) : A.units + 64 < cLine := hr.units
theorem pe_const {X : Cx} {x : Str} {v : V} {pos : Pos} (hg : Gl X x) (h : ∃ u, X.mg x = some u ∧ RelV v u) (hd : (x == ("__debug__" : Str)) = false := by decide) : PE X (.Name x pos) (tC v) := by
  obtain ⟨u, hm, r⟩ := h
  exact pe_glob hg hm r hd
end
/-- drawn numbers -/
structure Draw (ns sizes : List Int) : Prop where
  len : ns.length = sizes.length
  at_ : ∀ k, k < sizes.length → 0 ≤ ns.getD k 0 ∧ ns.getD k 0 < sizes.getD k 0
/-- the k-th cell of the script -/
def cellOf (ns : List Int) (k : Nat) : Int := ns.getD k 0
theorem at_map {ns : List Int} {k : Nat} (h : k < ns.length) : atI (ns.map V.int) (k : Int) = some (.int (ns.getD k 0)) := by
  have e : (ns.map V.int)[k]? = some (.int (ns.getD k 0)) := by
    rw [List.getElem?_map, List.getElem?_eq_getElem h, List.getD_eq_getElem?_getD, List.getElem?_eq_getElem h]
    rfl
  exact atI_nat e
end GR
namespace GR
open PySem PySem.Spec PyProof.Rows L2 Evl
section
variable {K : PySem.W.Frag} {σ : L2.St} {G H H' : Hp} {ta tb tc te tx : TE} {t u : TT} {x y z v : V} {D : Ends} {tu tw tz : TS} {g : TG}
/-- isinstance(x, T) -/
theorem ev_isi {c : V} {ty un : Value} {b : Bool} (h : Ev ta σ G x) (hc : Ev tb σ G c) (cv : ClsV c un) (hk : PySem.W.kitOne K ty un = some b) (ht : ∀ H1, Ex G H1 → TyX K H1 x ty) : Ev (tCB (rIsi K) (tCons ta (tCons tb tNil))) σ G (.bl b) := fun H1 e Q q =>
  h H1 e _ fun H2 e2 => hc H2 (e.trans e2) _ fun H3 e3 => ⟨x, c, ty, un, b, rfl, cv, ht H3 ((e.trans e2).trans e3), hk, q H3 (e2.trans e3)⟩
theorem ev_isiInt {i : Int} (h : Ev ta σ G (.int i)) : Ev (tCB (rIsi K) (tCons ta (tCons (tC (.ty "int")) tNil))) σ G (.bl true) := ev_isi h ev_c (.ty _) (kit_ty (by decide +kernel)) fun _ _ => .base (.int i)
theorem ev_isiIntB {i : Int} (h : Ev ta σ G (.int i)) : Ev (tCB (rIsi K) (tCons ta (tCons (tC (.ty "bool")) tNil))) σ G (.bl false) := ev_isi h ev_c (.ty _) (kit_ty (by decide +kernel)) fun _ _ => .base (.int i)
theorem ev_isiBl {i : Bool} (h : Ev ta σ G (.bl i)) : Ev (tCB (rIsi K) (tCons ta (tCons (tC (.ty "bool")) tNil))) σ G (.bl true) := ev_isi h ev_c (.ty _) (kit_ty (by decide +kernel)) fun _ _ => .base (.bl i)
theorem ev_isiStr {i : Str} (h : Ev ta σ G (.str i)) : Ev (tCB (rIsi K) (tCons ta (tCons (tC (.ty "str")) tNil))) σ G (.bl true) := ev_isi h ev_c (.ty _) (kit_ty (by decide +kernel)) fun _ _ => .base (.str i)
theorem ev_isiLst {p : Addr} {xs : List V} (h : Ev ta σ G (.ref p)) (hl : G p = some (.lst xs)) : Ev (tCB (rIsi K) (tCons ta (tCons (tC (.ty "list")) tNil))) σ G (.bl true) := ev_isi h ev_c (.ty _) (kit_ty (by decide +kernel)) fun _ e => .base (.lst (e _ _ hl))
theorem ev_isiTup {p : Addr} {xs : List V} (h : Ev ta σ G (.ref p)) (hl : G p = some (.tup xs)) : Ev (tCB (rIsi K) (tCons ta (tCons (tC (.ty "tuple")) tNil))) σ G (.bl true) := ev_isi h ev_c (.ty _) (kit_ty (by decide +kernel)) fun _ e => .base (.tup (e _ _ hl))
theorem tyx_tup {p : Addr} {xs : List V} (h : SqT K G p xs) : ∀ H1, Ex G H1 → TyX K H1 (.ref p) (.type "tuple") := fun H1 e => by
  rcases h with (h | ⟨o, h⟩) | ⟨o, its, n, h1, h2, _⟩
  · exact .base (.tup (e _ _ h))
  · exact .fTuple (e _ _ h)
  · exact .kTuple h1 h2
theorem ev_isiTupS {p : Addr} {xs : List V} (h : Ev ta σ G (.ref p)) (hl : SqT K G p xs) : Ev (tCB (rIsi K) (tCons ta (tCons (tC (.ty "tuple")) tNil))) σ G (.bl true) := ev_isi h ev_c (.ty _) (kit_ty (by decide +kernel)) (tyx_tup hl)
/-- sum, max, min of a list of ints -/
theorem ev_sum {p : Addr} {ns : List Int} (h : Ev ta σ G (.ref p)) (hs : SqL K G p (ns.map V.int)) : Ev (tCB (rSum K) (tCons ta tNil)) σ G (.int ns.sum) := fun H1 e Q q =>
  h H1 e _ fun H2 e2 => ⟨p, ns, rfl, ex_l (e.trans e2) hs, q H2 e2⟩
theorem ev_max {p : Addr} {ns : List Int} {m : Int} (h : Ev ta σ G (.ref p)) (hs : SqL K G p (ns.map V.int)) (hm : m ∈ ns) (hx : ∀ y, y ∈ ns → y ≤ m) : Ev (tCB (rMax K) (tCons ta tNil)) σ G (.int m) := fun H1 e Q q =>
  h H1 e _ fun H2 e2 => ⟨p, ns, rfl, ex_l (e.trans e2) hs, List.length_pos_of_mem hm, fun m' h1 h2 => by
    have e3 : m' = m := Int.le_antisymm (hx _ h1) (h2 _ hm)
    rw [e3]
    exact q H2 e2⟩
theorem ev_min {p : Addr} {ns : List Int} {m : Int} (h : Ev ta σ G (.ref p)) (hs : SqL K G p (ns.map V.int)) (hm : m ∈ ns) (hx : ∀ y, y ∈ ns → m ≤ y) : Ev (tCB (rMin K) (tCons ta tNil)) σ G (.int m) := fun H1 e Q q =>
  h H1 e _ fun H2 e2 => ⟨p, ns, rfl, ex_l (e.trans e2) hs, List.length_pos_of_mem hm, fun m' h1 h2 => by
    have e3 : m' = m := Int.le_antisymm (h2 _ hm) (hx _ h1)
    rw [e3]
    exact q H2 e2⟩
/-- a slice of a text -/
theorem ev_slS {tl th : TO} {w : Str} {lo hi : Option Int} (h : Ev te σ G (.str w)) (h1 : EvO tl σ G lo) (h2 : EvO th σ G hi) (hz : w.length ≤ 100000) : Ev (tSl rSlS te tl th) σ G (.str (cutS w lo hi)) := fun H1 e Q q =>
  h H1 e _ fun H2 e2 => h1 H2 (e.trans e2) _ fun H3 e3 => h2 H3 ((e.trans e2).trans e3) _ fun H4 e4 => ⟨w, rfl, sz_of hz, q H4 ((e2.trans e3).trans e4)⟩
/-- d[k], d a dict of the module -/
theorem rv_kd {w : World} {p : Addr} {k : Str} (h : KDct K w p k v) : RV (rIxD K w) (.ref p) (.str k) G v := fun H1 _ _ q => ⟨p, k, v, rfl, rfl, h, q H1 (Ex.refl H1)⟩
/-- == of data -/
theorem dp_mono {G H : Hp} (e : Ex G H) : ∀ {v : V} {d : PyData}, Dp K G v d → Dp K H v d := by
  intro v d h
  refine Dp.rec (motive_1 := fun v d _ => Dp K H v d) (motive_2 := fun vs ds _ => DpAll K H vs ds) .non .bl .int .str (fun h _ ih => .lst (ex_l e h) ih) (fun h _ ih => .tup (ex_t e h) ih) .nil (fun _ _ a b => .cons a b) h
theorem rv_eqD {d1 d2 : PyData} (h1 : Dp K G x d1) (h2 : Dp K G y d2) (s1 : SeqAt.shaped d1 = true) (s2 : SeqAt.shaped d2 = true) : RV (rEqD K) x y G (.bl (PyData.eqv d1 d2)) := fun H1 e _ q => ⟨d1, d2, dp_mono e h1, dp_mono e h2, s1, s2, q H1 (Ex.refl H1)⟩
theorem rv_neD {d1 d2 : PyData} (h1 : Dp K G x d1) (h2 : Dp K G y d2) (s1 : SeqAt.shaped d1 = true) (s2 : SeqAt.shaped d2 = true) : RV (rNeD K) x y G (.bl (!PyData.eqv d1 d2)) := fun H1 e _ q => ⟨d1, d2, dp_mono e h1, dp_mono e h2, s1, s2, q H1 (Ex.refl H1)⟩
theorem dpAll_ints (ns : List Int) : DpAll K G (ns.map V.int) (ns.map PyData.int) := by
  induction ns with
  | nil => exact .nil
  | cons n r ih => exact .cons (.int n) ih
theorem dp_ints {p : Addr} {ns : List Int} (h : SqL K G p (ns.map V.int)) : Dp K G (.ref p) (.list (ns.map PyData.int)) := .lst h (dpAll_ints ns)
theorem canLay_ints (ns : List Int) : PyData.canLayAll0 (ns.map PyData.int) = true := by
  induction ns with
  | nil => first | rfl | simp [PyData.canLayAll0]
  | cons n r ih => simp [PyData.canLayAll0, PyData.canLay0, ih]
theorem depth_ints (ns : List Int) : PyData.depthAll (ns.map PyData.int) ≤ 1 := by
  induction ns with
  | nil => simp [PyData.depthAll]
  | cons n r ih => simp [PyData.depthAll, PyData.depth]; omega
theorem shaped_ints (ns : List Int) : SeqAt.shaped (.list (ns.map PyData.int)) = true := by
  have h := depth_ints ns
  simp [SeqAt.shaped, PyData.canLay0, PyData.depth, canLay_ints]
  omega
theorem eqv_ints : ∀ ns ms : List Int, PyData.eqvAll (ns.map PyData.int) (ms.map PyData.int) = decide (ns = ms)
  | [], [] => by simp [PyData.eqvAll]
  | [], _ :: _ => by simp [PyData.eqvAll]
  | _ :: _, [] => by simp [PyData.eqvAll]
  | n :: r, m :: s => by
    simp [PyData.eqvAll, PyData.eqv, eqv_ints r s]
    by_cases h : n = m <;> simp [h]
theorem eqvL_ints (ns ms : List Int) : PyData.eqv (.list (ns.map PyData.int)) (.list (ms.map PyData.int)) = decide (ns = ms) := by
  rw [PyData.eqv, eqv_ints]
theorem rv_eqInts {p q : Addr} {ns ms : List Int} (h1 : SqL K G p (ns.map V.int)) (h2 : SqL K G q (ms.map V.int)) : RV (rEqD K) (.ref p) (.ref q) G (.bl (decide (ns = ms))) := by
  rw [← eqvL_ints]
  exact rv_eqD (dp_ints h1) (dp_ints h2) (shaped_ints ns) (shaped_ints ms)
theorem rv_neInts {p q : Addr} {ns ms : List Int} (h1 : SqL K G p (ns.map V.int)) (h2 : SqL K G q (ms.map V.int)) : RV (rNeD K) (.ref p) (.ref q) G (.bl (!decide (ns = ms))) := by
  rw [← eqvL_ints]
  exact rv_neD (dp_ints h1) (dp_ints h2) (shaped_ints ns) (shaped_ints ms)
/-- list(xs) of a list -/
theorem el_listL {p : Addr} {xs : List V} (ha : Ev ta σ G (.ref p)) (h : SqL K G p xs) : EvL (tCB (fun xs H Q => ∃ p ys, xs = [V.ref p] ∧ (SqL K H p ys ∨ SqT K H p ys) ∧ ∀ l, H l = none → Q (.ref l) (upd H l (.lst ys))) (tCons ta tNil)) σ G xs := fun H1 e Q q =>
  ha H1 e _ fun H2 e2 => ⟨p, xs, rfl, Or.inl (ex_l (e.trans e2) h), fun l hl => q l _ (fresh_back e2 hl) (e2.trans (Ex.new hl)) upd_same⟩
theorem el_listT {p : Addr} {xs : List V} (ha : Ev ta σ G (.ref p)) (h : SqT K G p xs) : EvL (tCB (fun xs H Q => ∃ p ys, xs = [V.ref p] ∧ (SqL K H p ys ∨ SqT K H p ys) ∧ ∀ l, H l = none → Q (.ref l) (upd H l (.lst ys))) (tCons ta tNil)) σ G xs := fun H1 e Q q =>
  ha H1 e _ fun H2 e2 => ⟨p, xs, rfl, Or.inr (ex_t (e.trans e2) h), fun l hl => q l _ (fresh_back e2 hl) (e2.trans (Ex.new hl)) upd_same⟩
/-- int(text) -/
theorem ev_intS {a : Str} {n : Int} (h : Ev ta σ G (.str a)) (h1 : PySem.intText? a = some n) (h2 : a.length ≤ 640) : Ev (tCB (fun xs H Q => ∃ a n, xs = [V.str a] ∧ PySem.intText? a = some n ∧ a.length ≤ 640 ∧ Q (.int n) H) (tCons ta tNil)) σ G (.int n) := fun H1 e Q q =>
  h H1 e _ fun H2 e2 => ⟨a, n, rfl, h1, h2, q H2 e2⟩
/-- calls -/
theorem ev_call1 {sp : Sp} {vs : List V} {E : XK} {ta : TA} (h : EvA ta σ G vs) (hs : ∀ H1, Ex G H1 → ∀ Q : VK, RetV z H1 Q → ∀ E, sp vs H1 Q E) : Ev (tCall sp [] E ta) σ G z :=
  ev_call h (by rw [List.append_nil]; exact fun H1 e Q q E => hs H1 e Q q E)
theorem el_call1 {sp : Sp} {vs xs : List V} {E : XK} {ta : TA} (h : EvA ta σ G vs) (hs : ∀ H1, Ex G H1 → ∀ Q : VK, RetL xs H1 Q → ∀ E, sp vs H1 Q E) : EvL (tCall sp [] E ta) σ G xs :=
  el_call h (by rw [List.append_nil]; exact fun H1 e Q q E => hs H1 e Q q E)
end
end GR
namespace GR
open PySem PySem.Spec PyProof.Rows L2 Evl
section
variable {K : PySem.W.Frag} {σ : L2.St} {G H H' : Hp} {ta tb tc te tx : TE} {t u : TT} {x y z v : V} {D : Ends} {tu tw tz : TS} {g : TG}
/-! ### dicts -/
def constPairs (kvs : List (Str × Int)) : List (TE × TE) := kvs.map fun p => (tC (.str p.1), tC (.int p.2))
theorem pairs_const : ∀ (kvs : List (Str × Int)) (σ : L2.St) (H : Hp) (F : List (V × V) → Hp → Prop), F (kvs.map fun p => (V.str p.1, V.int p.2)) H → tPairs (constPairs kvs) σ H F
  | [], _, _, _, h => h
  | p :: r, σ, H, F, h => pairs_const r σ H (fun ps H3 => F ((V.str p.1, V.int p.2) :: ps) H3) h
/-- d = {'a': 1, ..}, the rest -/
theorem a_setDC {i : Nat} (kvs : List (Str × Int)) (hl : kvs.length ≤ 15) (e : Ex G H) (k : ∀ p H1, G p = none → Ex (upd G p (.dK (mergeK [] (kvs.map fun x => ((Sum.inr x.1 : Key), V.int x.2))))) H1 → tz D (σ.set i (some (.ref p))) H1) : tSeq (tAsg (tDisp (constPairs kvs)) (gName i)) tz D σ H := fun p hp =>
  pairs_const kvs σ _ _ ⟨upd_same, kvs.map fun x => ((Sum.inr x.1 : Key), V.int x.2), by rw [List.map_map]; rfl, by rw [List.length_map]; exact hl, k p _ (fresh_back e hp) (by
    rw [upd_upd]
    exact ex_upd e p _)⟩
/-- d[k] -/
theorem ev_dget {p : Addr} {kvs : List (Key × V)} {k : Key} (h1 : Ev ta σ G (.ref p)) (h2 : Ev tb σ G (kV k)) (hp : G p = some (.dK kvs)) (hv : valV kvs k = some v) : Ev (tDGet ta tb) σ G v := fun H1 e Q q =>
  h1 H1 e _ fun H2 e2 => h2 H2 (e.trans e2) _ fun H3 e3 => ⟨p, v, rfl, by
    rw [← hv]
    exact DGet.k (((e.trans e2).trans e3) p _ hp), q H3 (e2.trans e3)⟩
/-- k in d, k not in d -/
theorem ev_din {p : Addr} {kvs : List (Key × V)} {k : Key} (h1 : Ev ta σ G (.ref p)) (h2 : Ev tb σ G (kV k)) (hp : G p = some (.dK kvs)) : Ev (tDIn tb ta) σ G (.bl (valV kvs k).isSome) := fun H1 e Q q =>
  h2 H1 e _ fun H2 e2 => h1 H2 (e.trans e2) _ fun H3 e3 => ⟨p, _, rfl, DGet.k (((e.trans e2).trans e3) p _ hp), q H3 (e2.trans e3)⟩
theorem ev_dnotin {p : Addr} {kvs : List (Key × V)} {k : Key} (h1 : Ev ta σ G (.ref p)) (h2 : Ev tb σ G (kV k)) (hp : G p = some (.dK kvs)) : Ev (tDNotIn tb ta) σ G (.bl (!(valV kvs k).isSome)) := fun H1 e Q q =>
  h2 H1 e _ fun H2 e2 => h1 H2 (e.trans e2) _ fun H3 e3 => ⟨p, _, rfl, DGet.k (((e.trans e2).trans e3) p _ hp), q H3 (e2.trans e3)⟩
/-- d = {}, the rest -/
theorem a_setD0 {i : Nat} (e : Ex G H) (k : ∀ p H1, G p = none → Ex (upd G p (.dK [])) H1 → tz D (σ.set i (some (.ref p))) H1) : tSeq (tAsg tDNewK (gName i)) tz D σ H := fun p hp =>
  k p _ (fresh_back e hp) (ex_upd e p _)
/-- d[k] = v, the rest -/
theorem a_dput {p : Addr} {kvs : List (Key × V)} {k : Key} (e : Ex G H) (h : Ev tc σ G v) (h1 : Ev ta σ G (.ref p)) (h2 : Ev tb σ G (kV k)) (hp : G p = some (.dK kvs)) (hz : kvs.length < 100000) (q : ∀ H1, Ex (upd G p (.dK (putK kvs k v))) H1 → tz D σ H1) : tSeq (sDPut ta tb tc) tz D σ H :=
  h H e _ fun H1 e1 => h1 H1 (e.trans e1) _ fun H2 e2 => h2 H2 ((e.trans e1).trans e2) _ fun H3 e3 => ⟨p, _, rfl, DPut.k ((((e.trans e1).trans e2).trans e3) p _ hp) (sz_lt hz), q _ (ex_upd (((e.trans e1).trans e2).trans e3) p _)⟩
theorem a_dput1 {p : Addr} {kvs : List (Key × V)} {k : Key} (e : Ex G H) (h : Ev tc σ G v) (h1 : Ev ta σ G (.ref p)) (h2 : Ev tb σ G (kV k)) (hp : G p = some (.dK kvs)) (hz : kvs.length < 100000) (q : ∀ H1, Ex (upd G p (.dK (putK kvs k v))) H1 → D.nx σ H1) : sDPut ta tb tc D σ H :=
  h H e _ fun H1 e1 => h1 H1 (e.trans e1) _ fun H2 e2 => h2 H2 ((e.trans e1).trans e2) _ fun H3 e3 => ⟨p, _, rfl, DPut.k ((((e.trans e1).trans e2).trans e3) p _ hp) (sz_lt hz), q _ (ex_upd (((e.trans e1).trans e2).trans e3) p _)⟩
/-- for x in xs -/
theorem a_forL {p : Addr} {xs : List V} {tl : TE} {j : Nat} (e : Ex G H) (h : Ev tl σ G (.ref p)) (hx : SqL K G p xs) (Pv : Nat → L2.St → Hp → Prop) (h0 : ∀ H1, Ex G H1 → Pv 0 σ H1) (hl : ∀ i σ' H', i ≤ xs.length → Pv i σ' H' → SqL K H' p xs)
    (hs : ∀ i x σ' H', xs[i]? = some x → Pv i σ' H' → tu { D with nx := Pv (i + 1), ct := Pv (i + 1), bk := tz D } (σ'.set j (some x)) H') (hd : ∀ σ' H', Pv xs.length σ' H' → tz D σ' H') : tSeq (tFor (iList K tl) (gName j) tu) tz D σ H :=
  q_forLn (h.mono e) (ex_l e hx) Pv (fun H1 e1 => h0 H1 (e.trans e1)) hl hs hd
theorem a_forNL {xs : List V} {tl : TE} {j : Nat} (e : Ex G H) (h : EvL tl σ G xs) (Pv : Addr → Nat → L2.St → Hp → Prop) (h0 : ∀ p H1, G p = none → Ex (upd G p (.lst xs)) H1 → Pv p 0 σ H1) (hl : ∀ p i σ' H', i ≤ xs.length → Pv p i σ' H' → SqL K H' p xs)
    (hs : ∀ p i x σ' H', xs[i]? = some x → Pv p i σ' H' → tu { D with nx := Pv p (i + 1), ct := Pv p (i + 1), bk := tz D } (σ'.set j (some x)) H') (hd : ∀ p σ' H', Pv p xs.length σ' H' → tz D σ' H') : tSeq (tFor (iList K tl) (gName j) tu) tz D σ H :=
  q_forNLn (h.mono e) Pv (fun p H1 hp e1 hx => h0 p H1 (fresh_back e hp) (ex_to (e.trans e1) hx)) hl hs hd
theorem a_forT {p : Addr} {xs : List V} {tl : TE} {j : Nat} (e : Ex G H) (h : Ev tl σ G (.ref p)) (hx : SqT K G p xs) (Pv : Nat → L2.St → Hp → Prop) (h0 : ∀ H1, Ex G H1 → Pv 0 σ H1) (hl : ∀ i σ' H', i ≤ xs.length → Pv i σ' H' → SqT K H' p xs)
    (hs : ∀ i x σ' H', xs[i]? = some x → Pv i σ' H' → tu { D with nx := Pv (i + 1), ct := Pv (i + 1), bk := tz D } (σ'.set j (some x)) H') (hd : ∀ σ' H', Pv xs.length σ' H' → tz D σ' H') : tSeq (tFor (iTup K tl) (gName j) tu) tz D σ H :=
  q_forT (h.mono e) (ex_t e hx) Pv (fun H1 e1 => h0 H1 (e.trans e1)) hl hs hd
end
end GR
namespace GR
open PySem PySem.Spec PyProof.Rows L2 Evl
section
variable {K : PySem.W.Frag} {σ : L2.St} {G H H' : Hp} {ta tb tc te tx : TE} {t u : TT} {x y z v : V} {D : Ends} {tu tw tz : TS} {g : TG}
/-- a new list of which P holds -/
def EvN (te : TE) (σ : L2.St) (G : Hp) (P : List V → Prop) : Prop := ∀ H1, Ex G H1 → ∀ Q : VK, (∀ xs p H2, P xs → H1 p = none → Ex H1 H2 → H2 p = some (.lst xs) → Q (.ref p) H2) → te σ H1 Q
theorem a_setN {i : Nat} {P : List V → Prop} (e : Ex G H) (h : EvN te σ G P) (k : ∀ xs p H1, P xs → G p = none → Ex (upd G p (.lst xs)) H1 → tz D (σ.set i (some (.ref p))) H1) : tSeq (tAsg te (gName i)) tz D σ H :=
  h H e _ fun xs p H1 hP hp e1 h1 => k xs p H1 hP (fresh_back e hp) (ex_to (e.trans e1) h1)
theorem en_callL {sp : Sp} {E : XK} {xs : List V} {P : List V → Prop} (h1 : Ev ta σ G x) (h2 : ∀ H1, Ex G H1 → EvL tb σ H1 xs) (hs : ∀ p H1, Ex G H1 → H1 p = some (.lst xs) → ∀ Q : VK, (∀ ys q H2, P ys → H1 q = none → Ex H1 H2 → H2 q = some (.lst ys) → Q (.ref q) H2) → ∀ E, sp [x, .ref p] H1 Q E) : EvN (tCall sp [] E (tCons ta (tCons tb tNil))) σ G P := fun H1 e Q q =>
  h1 H1 e _ fun H2 e2 => h2 H2 (e.trans e2) H2 (Ex.refl H2) _ fun p H3 hp e3 h3 => hs p H3 ((e.trans e2).trans e3) h3 Q (fun ys r H4 hP hr e4 h4 => q ys r H4 hP (fresh_back (e2.trans e3) hr) ((e2.trans e3).trans e4) h4) E
end
end GR
namespace GR
open PySem PySem.Spec PyProof.Rows L2 Evl
section
variable {X : Cx}
/-- xs + ys, two lists that may be read -/
def rCatL (K : PySem.W.Frag) : R2 := fun x y H Q => ∃ l b xs zs, x = .ref l ∧ y = .ref b ∧ SqL K H l xs ∧ SqL K H b zs ∧ xs.length + zs.length ≤ sizeLine ∧ ∀ p, H p = none → Q (.ref p) (upd H p (.lst (xs ++ zs)))
theorem op_catL : OpR X (binaryOp .Add) (rCatL X.K) := by
  intro pins s σ H x y v u Q I rx ry h
  obtain ⟨l, b, xs, zs, rfl, rfl, hH, hB, hz, q⟩ := h
  cases rx
  cases ry
  obtain ⟨its, r, pl, hl⟩ := I.list hH
  obtain ⟨its2, r2, pl2, hl2⟩ := I.list hB
  obtain ⟨⟨cls, dd, data, sl⟩, n, ho, hc, hdd, hd⟩ := id pl
  obtain ⟨⟨cls2, dd2, data2, sl2⟩, n2, ho2, hc2, hdd2, hd2⟩ := id pl2
  simp only at hc hd hc2 hd2
  subst hc hd hc2 hd2
  have e : its.toArray ++ its2.toArray = (its ++ its2).toArray := by simp
  have len1 := r.length
  have len2 := r2.length
  refine concat_meets ⟨_, ho, rfl⟩ ⟨_, ho2, rfl⟩ noFill_list_add seq_list_add PySem.F.slot_list_add PySem.F.entry_list_add (PySem.F.args_list_add_2 _ _) (list_addW l b its.toArray its2.toArray n n2 dd dd2 sl sl2 (by simp; omega)) ⟨ho, ho2, ?_⟩
  rw [e]
  exact ⟨.ref _, _, I.lnew (t' := s.toks) (r.append r2) (by rw [List.length_append]; omega), rfl, q _ I.fresh⟩
end
section
variable {K : PySem.W.Frag} {σ : L2.St} {G H H' : Hp} {ta tb tc te tx : TE} {t u : TT} {x y z v : V} {D : Ends} {tu tw tz : TS} {g : TG}
theorem el_catL {l b : Addr} {xs zs : List V} (h1 : Ev ta σ G (.ref l)) (h2 : Ev tb σ G (.ref b)) (s1 : SqL K G l xs) (s2 : SqL K G b zs) (hz : xs.length + zs.length ≤ 100000) : EvL (tOp (rCatL K) ta tb) σ G (xs ++ zs) := fun H1 e Q q =>
  h1 H1 e _ fun H2 e2 => h2 H2 (e.trans e2) _ fun H3 e3 => ⟨l, b, xs, zs, rfl, rfl, ex_l ((e.trans e2).trans e3) s1, ex_l ((e.trans e2).trans e3) s2, sz_of hz, fun p hp => q p _ (fresh_back (e2.trans e3) hp) ((e2.trans e3).trans (Ex.new hp)) upd_same⟩
/-- .. the first a new list, .. the second, .. both -/
theorem el_catNL {b : Addr} {xs zs : List V} (h1 : EvL ta σ G xs) (h2 : ∀ H1, Ex G H1 → Ev tb σ H1 (.ref b)) (s2 : SqL K G b zs) (hz : xs.length + zs.length ≤ 100000) : EvL (tOp (rCatL K) ta tb) σ G (xs ++ zs) := fun H1 e Q q =>
  h1 H1 e _ fun l H2 hl e2 hx => h2 H2 (e.trans e2) H2 (Ex.refl H2) _ fun H3 e3 => ⟨l, b, xs, zs, rfl, rfl, sq_of (e3 _ _ hx), ex_l ((e.trans e2).trans e3) s2, sz_of hz, fun p hp => q p _ (fresh_back (e2.trans e3) hp) ((e2.trans e3).trans (Ex.new hp)) upd_same⟩
theorem el_catLN {l : Addr} {xs zs : List V} (h1 : Ev ta σ G (.ref l)) (s1 : SqL K G l xs) (h2 : ∀ H1, Ex G H1 → EvL tb σ H1 zs) (hz : xs.length + zs.length ≤ 100000) : EvL (tOp (rCatL K) ta tb) σ G (xs ++ zs) := fun H1 e Q q =>
  h1 H1 e _ fun H2 e2 => h2 H2 (e.trans e2) H2 (Ex.refl H2) _ fun b H3 hb e3 hx => ⟨l, b, xs, zs, rfl, rfl, ex_l ((e.trans e2).trans e3) s1, sq_of hx, sz_of hz, fun p hp => q p _ (fresh_back (e2.trans e3) hp) ((e2.trans e3).trans (Ex.new hp)) upd_same⟩
theorem el_catNN {xs zs : List V} (h1 : EvL ta σ G xs) (h2 : ∀ H1, Ex G H1 → EvL tb σ H1 zs) (hz : xs.length + zs.length ≤ 100000) : EvL (tOp (rCatL K) ta tb) σ G (xs ++ zs) := fun H1 e Q q =>
  h1 H1 e _ fun l H2 hl e2 hx => h2 H2 (e.trans e2) H2 (Ex.refl H2) _ fun b H3 hb e3 hy => ⟨l, b, xs, zs, rfl, rfl, sq_of (e3 _ _ hx), sq_of hy, sz_of hz, fun p hp => q p _ (fresh_back (e2.trans e3) hp) ((e2.trans e3).trans (Ex.new hp)) upd_same⟩
/-- a slice of a new list -/
theorem el_slN {tl th : TO} {xs : List V} {lo hi : Option Int} (h : EvL te σ G xs) (h1 : ∀ H1, Ex G H1 → EvO tl σ H1 lo) (h2 : ∀ H1, Ex G H1 → EvO th σ H1 hi) : EvL (tSl (rSlL K) te tl th) σ G (cutV xs lo hi) := fun H1 e Q q =>
  h H1 e _ fun a H2 ha e2 hx => h1 H2 (e.trans e2) H2 (Ex.refl H2) _ fun H3 e3 => h2 H3 ((e.trans e2).trans e3) H3 (Ex.refl H3) _ fun H4 e4 =>
    ⟨a, xs, rfl, sq_of (e4 _ _ (e3 _ _ hx)), fun p hp => q p _ (fresh_back ((e2.trans e3).trans e4) hp) (((e2.trans e3).trans e4).trans (Ex.new hp)) upd_same⟩
theorem cutV_to {xs : List V} {n : Nat} : cutV xs none (some (n : Int)) = xs.take n := by
  unfold cutV
  rw [HT.sIx_none, show HT.sIx xs.length xs.length (some (n : Int)) = min n xs.length from HT.sIx_nat xs.length xs.length n]
  simp
theorem cutV_from {xs : List V} {n : Nat} : cutV xs (some (n : Int)) none = xs.drop n := by
  unfold cutV
  rw [HT.sIx_none, show HT.sIx xs.length 0 (some (n : Int)) = min n xs.length from HT.sIx_nat xs.length 0 n]
  by_cases h : n ≤ xs.length
  · rw [Nat.min_eq_left h]
    exact List.take_of_length_le (by rw [List.length_drop]; omega)
  · rw [Nat.min_eq_right (by omega), List.drop_of_length_le (Nat.le_refl _), List.drop_of_length_le (by omega)]
    simp
/-- an if's way out: what follows is shown once -/
theorem a_forNLm {xs : List V} {tl : TE} {j : Nat} (e : Ex G H) (h : EvL tl σ G xs) (Pv : Addr → Nat → L2.St → Hp → Prop) (h0 : ∀ p H1, G p = none → Ex (upd G p (.lst xs)) H1 → Pv p 0 σ H1) (hl : ∀ p i σ' H', i ≤ xs.length → Pv p i σ' H' → SqL K H' p xs)
    (hs : ∀ p i x σ' H', xs[i]? = some x → Pv p i σ' H' → tu { D with nx := Pv p (i + 1), ct := Pv p (i + 1), bk := tz D } (σ'.set j (some x)) H') (hd : ∀ p σ' H', Pv p xs.length σ' H' → tz D σ' H') : tSeq (tFor (iList K tl) (gName j) tu) tz D σ H :=
  a_forNL e h Pv h0 hl hs hd
end
end GR
namespace GR
open PySem PySem.Spec PyProof.Rows L2 Evl
section
variable {K : PySem.W.Frag} {σ : L2.St} {G H H' : Hp} {ta tb tc te tx : TE} {t u : TT} {x y z v : V} {D : Ends} {tu tw tz : TS} {g : TG}
/-- a value of which P holds, the heap but grown -/
def EvW (te : TE) (σ : L2.St) (G : Hp) (P : V → Prop) : Prop := ∀ H1, Ex G H1 → ∀ Q : VK, (∀ v H2, P v → Ex H1 H2 → Q v H2) → te σ H1 Q
theorem a_setV {i : Nat} {P : V → Prop} (e : Ex G H) (h : EvW te σ G P) (k : ∀ v H1, P v → Ex G H1 → tz D (σ.set i (some v)) H1) : tSeq (tAsg te (gName i)) tz D σ H :=
  h H e _ fun v H1 hP e1 => k v H1 hP (e.trans e1)
theorem ew_call {sp : Sp} {vs : List V} {E : XK} {ta : TA} {P : V → Prop} (h : EvA ta σ G vs) (hs : ∀ H1, Ex G H1 → ∀ Q : VK, (∀ v H2, P v → Ex H1 H2 → Q v H2) → ∀ E, sp vs H1 Q E) : EvW (tCall sp [] E ta) σ G P := fun H1 e Q q =>
  h H1 e _ fun H2 e2 => by
    rw [List.append_nil]
    exact hs H2 (e.trans e2) Q (fun v H3 hP e3 => q v H3 hP (e2.trans e3)) E
theorem eu_call {sp : Sp} {vs xs : List V} {E : XK} {ta : TA} (h : EvA ta σ G vs) (hs : ∀ H1, Ex G H1 → ∀ Q : VK, (∀ p H2, H1 p = none → Ex H1 H2 → H2 p = some (.tup xs) → Q (.ref p) H2) → ∀ E, sp vs H1 Q E) : EvU (tCall sp [] E ta) σ G xs := fun H1 e Q q =>
  h H1 e _ fun H2 e2 => by
    rw [List.append_nil]
    exact hs H2 (e.trans e2) Q (fun p H3 hp e3 h3 => q p H3 (fresh_back e2 hp) (e2.trans e3) h3) E
theorem en_call {sp : Sp} {vs : List V} {E : XK} {ta : TA} {P : List V → Prop} (h : EvA ta σ G vs) (hs : ∀ H1, Ex G H1 → ∀ Q : VK, (∀ xs p H2, P xs → H1 p = none → Ex H1 H2 → H2 p = some (.lst xs) → Q (.ref p) H2) → ∀ E, sp vs H1 Q E) : EvN (tCall sp [] E ta) σ G P := fun H1 e Q q =>
  h H1 e _ fun H2 e2 => by
    rw [List.append_nil]
    exact hs H2 (e.trans e2) Q (fun xs p H3 hP hp e3 h3 => q xs p H3 hP (fresh_back e2 hp) (e2.trans e3) h3) E
end
end GR
namespace GR
open PySem PySem.Spec PyProof.Rows L2 Evl
section
variable {K : PySem.W.Frag} {σ : L2.St} {G H H' : Hp} {ta tb tc te tx : TE} {t u : TT} {x y z v : V} {D : Ends} {tu tw tz : TS} {g : TG}
theorem et_yes : EvT tYes σ G true := fun H1 _ _ q => q H1 (Ex.refl H1)
/-! ### comprehensions -/
/-- one turn: the target, the test, the element, on the item x -/
def Turn1 (g : TG) (t : TT) (te : TE) (vs : List Nat) (σ : L2.St) (G : Hp) (fx : V → Option V) (x : V) : Prop :=
  ∃ σ2 : L2.St, (∀ H1, Ex G H1 → ∀ Q : L2.St → Hp → Prop, (∀ H2, Ex H1 H2 → Q σ2 H2) → g x (wipe σ vs) H1 Q) ∧ wipe σ2 vs = wipe σ vs ∧ EvT t σ2 G (fx x).isSome ∧ ∀ y, fx x = some y → Ev te σ2 G y
def CwF (G : Hp) (fx : V → Option V) (xs : List V) (Dl : Addr) (i : Nat) (H' : Hp) : Prop := G Dl = none ∧ Ex G H' ∧ H' Dl = some (.lst ((xs.take i).filterMap fx))
theorem cwF_turn {fx : V → Option V} {xs : List V} {vs : List Nat} {Dl : Addr} {i : Nat} (hi : xs[i]? = some x) (hz : xs.length ≤ 50000) (p : CwF G fx xs Dl i H') (h : Turn1 g t te vs σ G fx x) :
    g x (wipe σ vs) H' fun σ2 H2 => wipe σ2 vs = wipe σ vs ∧ t σ2 H2 fun b H3 => if b = true then te σ2 H3 fun y H4 => ∃ acc, H4 Dl = some (.lst acc) ∧ acc.length < sizeLine ∧ CwF G fx xs Dl (i + 1) (upd H4 Dl (.lst (acc ++ [y]))) else CwF G fx xs Dl (i + 1) H3 := by
  obtain ⟨p1, p2, p3⟩ := p
  obtain ⟨σ2, hg, hw, ht, he⟩ := h
  have hlt := (List.getElem?_eq_some_iff.mp hi).1
  have hx : xs[i] = x := (List.getElem?_eq_some_iff.mp hi).2
  refine hg H' p2 _ fun H2 e2 => ⟨hw, ht H2 (p2.trans e2) _ fun H3 e3 => ?_⟩
  have hlen : ((xs.take i).filterMap fx).length ≤ xs.length := by
    have h1 := List.length_filterMap_le fx (xs.take i)
    rw [List.length_take] at h1
    omega
  cases hf : fx x with
  | some y =>
    show te σ2 H3 fun y H4 => ∃ acc, H4 Dl = some (.lst acc) ∧ acc.length < sizeLine ∧ CwF G fx xs Dl (i + 1) (upd H4 Dl (.lst (acc ++ [y])))
    refine he y hf H3 ((p2.trans e2).trans e3) _ fun H4 e4 => ⟨_, e4 Dl _ (e3 Dl _ (e2 Dl _ p3)), sz_lt (by omega), p1, Ex.mut (((p2.trans e2).trans e3).trans e4) p1, ?_⟩
    rw [upd_same, List.take_add_one, List.getElem?_eq_getElem hlt, hx]
    simp [hf]
  | none =>
    show CwF G fx xs Dl (i + 1) H3
    refine ⟨p1, (p2.trans e2).trans e3, ?_⟩
    rw [List.take_add_one, List.getElem?_eq_getElem hlt, hx, e3 Dl _ (e2 Dl _ p3)]
    simp [hf]
theorem turn_mono {G1 : Hp} {fx : V → Option V} {vs : List Nat} (e : Ex G G1) (h : Turn1 g t te vs σ G fx x) : Turn1 g t te vs σ G1 fx x := by
  obtain ⟨σ2, hg, hw, ht, he⟩ := h
  exact ⟨σ2, fun H1 e1 Q q => hg H1 (e.trans e1) Q q, hw, ht.mono e, fun y hy => (he y hy).mono e⟩
/-- over a list, a tuple, a range -/
theorem el_fL {a : Addr} {xs : List V} {vs : List Nat} (fx : V → Option V) (h : Ev tx σ G (.ref a)) (hx : SqL K G a xs) (hz : xs.length ≤ 50000) (ht : ∀ x ∈ xs, Turn1 g t te vs σ G fx x) : EvL (tLc (iList K tx) g t te vs) σ G (xs.filterMap fx) := fun H0 e Q q => h H0 e _ fun H1 e1 => ⟨a, rfl, ⟨xs, ex_l (e.trans e1) hx⟩, fun Dl hD =>
  lc_list (xs := xs) (CwF H1 fx xs Dl) ⟨hD, Ex.new hD, upd_same⟩ (fun i H' _ p => ex_l ((e.trans e1).trans p.2.1) hx) (fun i x H' hi p => cwF_turn hi hz p (turn_mono (e.trans e1) (ht x (List.mem_of_getElem? hi))))
    (fun H' p => q Dl H' (fresh_back e1 p.1) (e1.trans p.2.1) (by rw [p.2.2, List.take_of_length_le (Nat.le_refl _)]))⟩
theorem el_fT {a : Addr} {xs : List V} {vs : List Nat} (fx : V → Option V) (h : Ev tx σ G (.ref a)) (hx : SqT K G a xs) (hz : xs.length ≤ 50000) (ht : ∀ x ∈ xs, Turn1 g t te vs σ G fx x) : EvL (tLc (iTup K tx) g t te vs) σ G (xs.filterMap fx) := fun H0 e Q q => h H0 e _ fun H1 e1 => ⟨a, rfl, ⟨xs, ex_t (e.trans e1) hx⟩, fun Dl hD =>
  lc_tup (xs := xs) (CwF H1 fx xs Dl) ⟨hD, Ex.new hD, upd_same⟩ (fun i H' _ p => ex_t ((e.trans e1).trans p.2.1) hx) (fun i x H' hi p => cwF_turn hi hz p (turn_mono (e.trans e1) (ht x (List.mem_of_getElem? hi))))
    (fun H' p => q Dl H' (fresh_back e1 p.1) (e1.trans p.2.1) (by rw [p.2.2, List.take_of_length_le (Nat.le_refl _)]))⟩
theorem el_fNL {xs : List V} {vs : List Nat} (fx : V → Option V) (h : EvL tx σ G xs) (hz : xs.length ≤ 50000) (ht : ∀ x ∈ xs, Turn1 g t te vs σ G fx x) : EvL (tLc (iList K tx) g t te vs) σ G (xs.filterMap fx) := fun H0 e Q q => h H0 e _ fun a H1 ha e1 hx => ⟨a, rfl, ⟨xs, sq_of hx⟩, fun Dl hD =>
  lc_list (xs := xs) (CwF H1 fx xs Dl) ⟨hD, Ex.new hD, upd_same⟩ (fun i H' _ p => sq_of (p.2.1 a _ hx)) (fun i x H' hi p => cwF_turn hi hz p (turn_mono (e.trans e1) (ht x (List.mem_of_getElem? hi))))
    (fun H' p => q Dl H' (fresh_back e1 p.1) (e1.trans p.2.1) (by rw [p.2.2, List.take_of_length_le (Nat.le_refl _)]))⟩
def rng (n : Int) : List V := (List.range n.toNat).map fun (i : Nat) => V.int (i : Int)
theorem rng_mem {n : Int} (h : x ∈ rng n) : ∃ i : Nat, x = .int (i : Int) ∧ (i : Int) < n := by
  obtain ⟨i, hi, rfl⟩ := List.mem_map.mp h
  exact ⟨i, rfl, by have := List.mem_range.mp hi; omega⟩
theorem el_fR {ta : TA} {vs : List Nat} {n : Int} (fx : V → Option V) (h : EvA ta σ G [.int n]) (hn : 0 ≤ n ∧ n ≤ 40000) (ht : ∀ i : Nat, (i : Int) < n → Turn1 g t te vs σ G fx (.int (i : Int))) : EvL (tLc (iRng1 ta) g t te vs) σ G ((rng n).filterMap fx) := fun H0 e Q q => h H0 e _ fun H1 e1 => ⟨n, rfl, by omega, by omega, fun Dl hD =>
  lc_range (lo := 0) (n := n.toNat) (CwF H1 fx (rng n) Dl) ⟨hD, Ex.new hD, upd_same⟩ (fun i H' hi p => by
    have e0 : (0 : Int) + (i : Int) = (i : Int) := Int.zero_add _
    rw [e0]
    have hx : (rng n)[i]? = some (V.int (i : Int)) := by
      unfold rng
      rw [List.getElem?_map, List.getElem?_range hi]
      rfl
    exact cwF_turn hx (by unfold rng; rw [List.length_map, List.length_range]; omega) p (turn_mono (e.trans e1) (ht i (by omega))))
    (fun H' p => q Dl H' (fresh_back e1 p.1) (e1.trans p.2.1) (by rw [p.2.2, List.take_of_length_le (by unfold rng; rw [List.length_map, List.length_range]; exact Nat.le_refl _)]))⟩
/-- a turn whose target is a name -/
theorem turn_name {j : Nat} {vs : List Nat} {fx : V → Option V} (hw : wipe ((wipe σ vs).set j (some x)) vs = wipe σ vs) (ht : EvT t ((wipe σ vs).set j (some x)) G (fx x).isSome) (he : ∀ y, fx x = some y → Ev te ((wipe σ vs).set j (some x)) G y) : Turn1 (gName j) t te vs σ G fx x :=
  ⟨_, fun H1 _ Q q => q H1 (Ex.refl H1), hw, ht, he⟩
/-- .. no test, the element a function of the item -/
theorem turn_map {j : Nat} {vs : List Nat} {f : V → V} (hw : wipe ((wipe σ vs).set j (some x)) vs = wipe σ vs) (he : Ev te ((wipe σ vs).set j (some x)) G (f x)) : Turn1 (gName j) tYes te vs σ G (fun x => some (f x)) x :=
  turn_name hw et_yes fun y hy => by
    obtain rfl := Option.some.inj hy
    exact he
/-- a target of three names -/
theorem g3 {i j k : Nat} {a : Addr} {Q : L2.St → Hp → Prop} (h : SqT K H a [x, y, z]) (q : Q (((σ.set i (some x)).set j (some y)).set k (some z)) H) : gTup K 3 (gCons (gName i) (gCons (gName j) (gCons (gName k) gNil))) (.ref a) σ H Q :=
  ⟨a, _, rfl, h, rfl, x, _, rfl, y, _, rfl, z, _, rfl, rfl, q⟩
theorem g2 {i j : Nat} {a : Addr} {Q : L2.St → Hp → Prop} (h : SqT K H a [x, y]) (q : Q ((σ.set i (some x)).set j (some y)) H) : gTup K 2 (gCons (gName i) (gCons (gName j) gNil)) (.ref a) σ H Q :=
  ⟨a, _, rfl, h, rfl, x, _, rfl, y, _, rfl, rfl, q⟩
theorem a_forTg {p : Addr} {xs : List V} {tl : TE} (e : Ex G H) (h : Ev tl σ G (.ref p)) (hx : SqT K G p xs) (Pv : Nat → L2.St → Hp → Prop) (h0 : ∀ H1, Ex G H1 → Pv 0 σ H1) (hl : ∀ i σ' H', i ≤ xs.length → Pv i σ' H' → SqT K H' p xs)
    (hs : ∀ i x σ' H', xs[i]? = some x → Pv i σ' H' → g x σ' H' fun σ2 H2 => tu { D with nx := Pv (i + 1), ct := Pv (i + 1), bk := tz D } σ2 H2) (hd : ∀ σ' H', Pv xs.length σ' H' → tz D σ' H') : tSeq (tFor (iTup K tl) g tu) tz D σ H :=
  q_forT (h.mono e) (ex_t e hx) Pv (fun H1 e1 => h0 H1 (e.trans e1)) hl hs hd
/-- x += n -/
theorem a_aug {i : Nat} {f : Int → Int → Int} {m n : Int} (e : Ex G H) (hx : σ[i]? = some (some (.int m))) (h : Ev te σ G (.int n)) (k : ∀ H1, Ex G H1 → tz D (σ.set i (some (.int (f m n)))) H1) : tSeq (tAug i te (ipI f)) tz D σ H :=
  q_aug hx (h.mono e) fun H1 e1 => k H1 (e.trans e1)
theorem a_aug1 {i : Nat} {f : Int → Int → Int} {m n : Int} (e : Ex G H) (hx : σ[i]? = some (some (.int m))) (h : Ev te σ G (.int n)) (k : ∀ H1, Ex G H1 → D.nx (σ.set i (some (.int (f m n)))) H1) : tAug i te (ipI f) D σ H :=
  s_aug hx (h.mono e) fun H1 e1 => k H1 (e.trans e1)
/-! ### calls of defs that may raise, and of defs that change what stands: what follows is handed to the promise -/
theorem a_callX {sp : Sp} {E : XK} {ta : TA} {vs : List V} (e : Ex G H) (h : EvA ta σ G vs) (k : ∀ H1, Ex G H1 → sp vs H1 (fun _ H2 => tz D σ H2) E) : tSeq (tDrop (tCall sp [] E ta)) tz D σ H :=
  h H e _ fun H1 e1 => by
    rw [List.append_nil]
    exact k H1 (e.trans e1)
theorem a_callX1 {sp : Sp} {E : XK} {ta : TA} {vs : List V} (e : Ex G H) (h : EvA ta σ G vs) (k : ∀ H1, Ex G H1 → sp vs H1 (fun _ H2 => D.nx σ H2) E) : tDrop (tCall sp [] E ta) D σ H :=
  h H e _ fun H1 e1 => by
    rw [List.append_nil]
    exact k H1 (e.trans e1)
theorem a_setX {sp : Sp} {E : XK} {ta : TA} {vs : List V} {i : Nat} (e : Ex G H) (h : EvA ta σ G vs) (k : ∀ H1, Ex G H1 → sp vs H1 (fun v H2 => tz D (σ.set i (some v)) H2) E) : tSeq (tAsg (tCall sp [] E ta) (gName i)) tz D σ H :=
  h H e _ fun H1 e1 => by
    rw [List.append_nil]
    exact k H1 (e.trans e1)
theorem a_retX {sp : Sp} {E : XK} {ta : TA} {vs : List V} (e : Ex G H) (h : EvA ta σ G vs) (k : ∀ H1, Ex G H1 → sp vs H1 D.rt E) : tRet (tCall sp [] E ta) D σ H :=
  h H e _ fun H1 e1 => by
    rw [List.append_nil]
    exact k H1 (e.trans e1)
/-! ### f-strings: some text -/
theorem js_nil {acc : Str} {Q : Str → Hp → Prop} (q : ∀ out H1, Ex G H1 → Q out H1) (e : Ex G H) : tJs [] acc σ H Q := q _ _ e
/-- parts that are short texts -/
def Parts : List TE → L2.St → Hp → Prop
  | [], _, _ => True
  | t :: ts, σ, G => (∃ y : Str, y.length ≤ 2000 ∧ Ev t σ G (.str y)) ∧ Parts ts σ G
theorem js_run : ∀ (ts : List TE) (acc : Str) (H : Hp) (Q : Str → Hp → Prop), Parts ts σ G → acc.length + 2000 * ts.length ≤ 100000 → Ex G H → (∀ out H1, Ex H H1 → Q out H1) → tJs ts acc σ H Q
  | [], acc, H, Q, _, _, _, q => q acc H (Ex.refl H)
  | t :: ts, acc, H, Q, ⟨⟨y, hy, h⟩, r⟩, hl, e, q => h H e _ fun H1 e1 => ⟨y, rfl, sz_of (by
      have : (acc ++ y).length = acc.length + y.length := PySem.Str.length_append _ _
      rw [List.length_cons] at hl
      omega), js_run ts (acc ++ y) H1 Q r (by
      have : (acc ++ y).length = acc.length + y.length := PySem.Str.length_append _ _
      rw [List.length_cons] at hl
      omega) (e.trans e1) fun out H2 e2 => q out H2 (e1.trans e2)⟩
end
theorem exm_two {K : PySem.W.Frag} {S C : Addr} (h1 : PySem.W.subIn K (.ref S) (.type "BaseException") = some true) (hb : PySem.W.subIn K (.ref C) (.type "BaseException") = some true) (h2 : PySem.W.isClsIn K C = true) (h3 : PySem.W.typeIn K (.ref C) = some (.type "type")) (h4 : PySem.W.subIn K (.ref S) (.ref C) = some true) :
    PySem.W.exmOne K (.ref S) (.ref C) = some true := by
  have e1 : (PySem.W.subIn K (.ref C) (.type "BaseException") == some true) = true := by rw [hb] <;> rfl
  have e2 : ((PySem.W.clsIn K C).isSome && PySem.W.typeIn K (.ref C) == some (.type "type")) = true := by
    have h2' : (PySem.W.clsIn K C).isSome = true := h2
    rw [h2', h3] <;> rfl
  show (if (PySem.W.subIn K (.ref C) (.type "BaseException") == some true) = true then (if ((PySem.W.clsIn K C).isSome && PySem.W.typeIn K (.ref C) == some (.type "type")) = true then PySem.W.subIn K (.ref S) (.ref C) else none) else none) = some true
  rw [if_pos e1, if_pos e2]
  exact h4
end GR
namespace GR
open PySem PySem.Spec PyProof.Rows L2 Evl
section
variable {K : PySem.W.Frag} {σ : L2.St} {G H H' : Hp} {ta tb tc te tx : TE} {t u : TT} {x y z v : V} {D : Ends} {tu tw tz : TS} {g : TG}
/-- loops that end a block -/
theorem a_forL1 {p : Addr} {xs : List V} {tl : TE} {j : Nat} (e : Ex G H) (h : Ev tl σ G (.ref p)) (hx : SqL K G p xs) (Pv : Nat → L2.St → Hp → Prop) (h0 : ∀ H1, Ex G H1 → Pv 0 σ H1) (hl : ∀ i σ' H', i ≤ xs.length → Pv i σ' H' → SqL K H' p xs)
    (hs : ∀ i x σ' H', xs[i]? = some x → Pv i σ' H' → tu { D with nx := Pv (i + 1), ct := Pv (i + 1), bk := D.nx } (σ'.set j (some x)) H') (hd : ∀ σ' H', Pv xs.length σ' H' → D.nx σ' H') : tFor (iList K tl) (gName j) tu D σ H :=
  s_forLn (h.mono e) (ex_l e hx) Pv (fun H1 e1 => h0 H1 (e.trans e1)) hl hs hd
theorem a_forTg1 {p : Addr} {xs : List V} {tl : TE} (e : Ex G H) (h : Ev tl σ G (.ref p)) (hx : SqT K G p xs) (Pv : Nat → L2.St → Hp → Prop) (h0 : ∀ H1, Ex G H1 → Pv 0 σ H1) (hl : ∀ i σ' H', i ≤ xs.length → Pv i σ' H' → SqT K H' p xs)
    (hs : ∀ i x σ' H', xs[i]? = some x → Pv i σ' H' → g x σ' H' fun σ2 H2 => tu { D with nx := Pv (i + 1), ct := Pv (i + 1), bk := D.nx } σ2 H2) (hd : ∀ σ' H', Pv xs.length σ' H' → D.nx σ' H') : tFor (iTup K tl) g tu D σ H :=
  s_forT (h.mono e) (ex_t e hx) Pv (fun H1 e1 => h0 H1 (e.trans e1)) hl hs hd
theorem a_forR1 {ta : TA} {j : Nat} {n : Int} (e : Ex G H) (h : EvA ta σ G [.int n]) (hn : 0 ≤ n ∧ n ≤ 100000) (Pv : Nat → L2.St → Hp → Prop) (h0 : ∀ H1, Ex G H1 → Pv 0 σ H1)
    (hs : ∀ (i : Nat) σ' H', (i : Int) < n → Pv i σ' H' → tu { D with nx := Pv (i + 1), ct := Pv (i + 1), bk := D.nx } (σ'.set j (some (.int (i : Int)))) H') (hd : ∀ σ' H', Pv n.toNat σ' H' → D.nx σ' H') : tFor (iRng1 ta) (gName j) tu D σ H :=
  s_forR1 (fun H1 e1 => h H1 (e.trans e1)) hn Pv (fun H1 e1 => h0 H1 (e.trans e1)) hs hd
end
end GR
namespace GR
theorem nd_t {p : Prop} [Decidable p] (h : (!decide p) = true) : ¬ p := fun q => by
  rw [decide_eq_true q] at h
  cases h
theorem nd_f {p : Prop} [Decidable p] (h : (!decide p) = false) : p := by
  by_cases q : p
  · exact q
  · rw [decide_eq_false q] at h
    cases h
end GR
namespace GR
open PySem PySem.Spec PyProof.Rows L2 Evl
section
variable {K : PySem.W.Frag} {σ : L2.St} {G H H' : Hp} {ta tb tc te tx : TE} {t u : TT} {x y z v : V} {D : Ends} {tu tw tz : TS} {g : TG}
/-- f(e, [..]): the second argument a new list -/
theorem ev_callL {sp : Sp} {E : XK} {xs : List V} (h1 : Ev ta σ G x) (h2 : ∀ H1, Ex G H1 → EvL tb σ H1 xs) (hs : ∀ p H1, Ex G H1 → H1 p = some (.lst xs) → ∀ Q : VK, RetV z H1 Q → ∀ E, sp [x, .ref p] H1 Q E) : Ev (tCall sp [] E (tCons ta (tCons tb tNil))) σ G z := fun H1 e Q q =>
  h1 H1 e _ fun H2 e2 => h2 H2 (e.trans e2) H2 (Ex.refl H2) _ fun p H3 hp e3 h3 => hs p H3 ((e.trans e2).trans e3) h3 Q (fun H4 e4 => q H4 ((e2.trans e3).trans e4)) E
end
end GR
namespace GR
open PySem PySem.Spec PyProof.Rows L2 Evl
section
variable {X : Cx} {K : PySem.W.Frag}
/-- rules that speak of the written part, within a comprehension -/
theorem ixK {r : PySem.W.Frag → R2} (h : IxR X (r X.K)) (e : X.K = K) : IxR X (r K) := e ▸ h
theorem opK {f : Value → Value → Sem Value} {r : PySem.W.Frag → R2} (h : OpR X f (r X.K)) (e : X.K = K) : OpR X f (r K) := e ▸ h
theorem callK {f : Value} {r : PySem.W.Frag → List V → Hp → VK → Prop} (h : CallR X f (r X.K)) (e : X.K = K) : CallR X f (r K) := e ▸ h
theorem slK {r : PySem.W.Frag → V → Option Int → Option Int → Hp → VK → Prop} (h : SlR X (r X.K)) (e : X.K = K) : SlR X (r K) := e ▸ h
def rTupOf (K : PySem.W.Frag) : List V → Hp → VK → Prop := fun xs H Q => ∃ p ys, xs = [.ref p] ∧ ((SqL K H p ys ∧ ∀ l, H l = none → Q (.ref l) (upd H l (.tup ys))) ∨ (SqT K H p ys ∧ Q (.ref p) H))
end
end GR
namespace GR
open PySem PySem.Spec PyProof.Rows L2 Evl
section
variable {α : Type} {K : PySem.W.Frag} {σ : L2.St} {G H H' : Hp} {ta tb tc te tx : TE} {t u : TT} {x y z v : V} {D : Ends} {tu tw tz : TS} {g : TG}
/-! ### comprehensions over what stands for data cs, item by item -/
def CwD (G : Hp) (F : α → Option V) (cs : List α) (Dl : Addr) (i : Nat) (H' : Hp) : Prop := G Dl = none ∧ Ex G H' ∧ H' Dl = some (.lst ((cs.take i).filterMap F))
theorem cwD_turn {F : α → Option V} {cs : List α} {c : α} {vs : List Nat} {Dl : Addr} {i : Nat} (hi : cs[i]? = some c) (hz : cs.length ≤ 50000) (p : CwD G F cs Dl i H') (h : Turn1 g t te vs σ G (fun _ => F c) x) :
    g x (wipe σ vs) H' fun σ2 H2 => wipe σ2 vs = wipe σ vs ∧ t σ2 H2 fun b H3 => if b = true then te σ2 H3 fun y H4 => ∃ acc, H4 Dl = some (.lst acc) ∧ acc.length < sizeLine ∧ CwD G F cs Dl (i + 1) (upd H4 Dl (.lst (acc ++ [y]))) else CwD G F cs Dl (i + 1) H3 := by
  obtain ⟨p1, p2, p3⟩ := p
  obtain ⟨σ2, hg, hw, ht, he⟩ := h
  have hlt := (List.getElem?_eq_some_iff.mp hi).1
  have hx : cs[i] = c := (List.getElem?_eq_some_iff.mp hi).2
  refine hg H' p2 _ fun H2 e2 => ⟨hw, ht H2 (p2.trans e2) _ fun H3 e3 => ?_⟩
  have hlen : ((cs.take i).filterMap F).length ≤ cs.length := by
    have h1 := List.length_filterMap_le F (cs.take i)
    rw [List.length_take] at h1
    omega
  cases hf : F c with
  | some y =>
    show te σ2 H3 fun y H4 => ∃ acc, H4 Dl = some (.lst acc) ∧ acc.length < sizeLine ∧ CwD G F cs Dl (i + 1) (upd H4 Dl (.lst (acc ++ [y])))
    refine he y hf H3 ((p2.trans e2).trans e3) _ fun H4 e4 => ⟨_, e4 Dl _ (e3 Dl _ (e2 Dl _ p3)), sz_lt (by omega), p1, Ex.mut (((p2.trans e2).trans e3).trans e4) p1, ?_⟩
    rw [upd_same, List.take_add_one, List.getElem?_eq_getElem hlt, hx]
    simp [hf]
  | none =>
    show CwD G F cs Dl (i + 1) H3
    refine ⟨p1, (p2.trans e2).trans e3, ?_⟩
    rw [List.take_add_one, List.getElem?_eq_getElem hlt, hx, e3 Dl _ (e2 Dl _ p3)]
    simp [hf]
theorem el_dT {a : Addr} {xs : List V} {cs : List α} {vs : List Nat} (F : α → Option V) (h : Ev tx σ G (.ref a)) (hx : SqT K G a xs) (hl : xs.length = cs.length) (hz : cs.length ≤ 50000) (ht : ∀ (i : Nat) x c, xs[i]? = some x → cs[i]? = some c → Turn1 g t te vs σ G (fun _ => F c) x) : EvL (tLc (iTup K tx) g t te vs) σ G (cs.filterMap F) := fun H0 e Q q => h H0 e _ fun H1 e1 => ⟨a, rfl, ⟨xs, ex_t (e.trans e1) hx⟩, fun Dl hD =>
  lc_tup (xs := xs) (CwD H1 F cs Dl) ⟨hD, Ex.new hD, upd_same⟩ (fun i H' _ p => ex_t ((e.trans e1).trans p.2.1) hx) (fun i x H' hi p => by
    have hlt : i < cs.length := by rw [← hl]; exact (List.getElem?_eq_some_iff.mp hi).1
    exact cwD_turn (List.getElem?_eq_getElem hlt) hz p (turn_mono (e.trans e1) (ht i x _ hi (List.getElem?_eq_getElem hlt))))
    (fun H' p => q Dl H' (fresh_back e1 p.1) (e1.trans p.2.1) (by rw [p.2.2, List.take_of_length_le (by omega)]))⟩
theorem el_dL {a : Addr} {xs : List V} {cs : List α} {vs : List Nat} (F : α → Option V) (h : Ev tx σ G (.ref a)) (hx : SqL K G a xs) (hl : xs.length = cs.length) (hz : cs.length ≤ 50000) (ht : ∀ (i : Nat) x c, xs[i]? = some x → cs[i]? = some c → Turn1 g t te vs σ G (fun _ => F c) x) : EvL (tLc (iList K tx) g t te vs) σ G (cs.filterMap F) := fun H0 e Q q => h H0 e _ fun H1 e1 => ⟨a, rfl, ⟨xs, ex_l (e.trans e1) hx⟩, fun Dl hD =>
  lc_list (xs := xs) (CwD H1 F cs Dl) ⟨hD, Ex.new hD, upd_same⟩ (fun i H' _ p => ex_l ((e.trans e1).trans p.2.1) hx) (fun i x H' hi p => by
    have hlt : i < cs.length := by rw [← hl]; exact (List.getElem?_eq_some_iff.mp hi).1
    exact cwD_turn (List.getElem?_eq_getElem hlt) hz p (turn_mono (e.trans e1) (ht i x _ hi (List.getElem?_eq_getElem hlt))))
    (fun H' p => q Dl H' (fresh_back e1 p.1) (e1.trans p.2.1) (by rw [p.2.2, List.take_of_length_le (by omega)]))⟩
/-- .. over range(n), the turn by its number -/
theorem el_dR {ta : TA} {vs : List Nat} {n : Int} (F : Nat → Option V) (h : EvA ta σ G [.int n]) (hn : 0 ≤ n ∧ n ≤ 40000) (ht : ∀ i : Nat, (i : Int) < n → Turn1 g t te vs σ G (fun _ => F i) (.int (i : Int))) : EvL (tLc (iRng1 ta) g t te vs) σ G ((List.range n.toNat).filterMap F) := fun H0 e Q q => h H0 e _ fun H1 e1 => ⟨n, rfl, by omega, by omega, fun Dl hD =>
  lc_range (lo := 0) (n := n.toNat) (CwD H1 F (List.range n.toNat) Dl) ⟨hD, Ex.new hD, upd_same⟩ (fun i H' hi p => by
    have e0 : (0 : Int) + (i : Int) = (i : Int) := Int.zero_add _
    rw [e0]
    exact cwD_turn (List.getElem?_range hi) (by rw [List.length_range]; omega) p (turn_mono (e.trans e1) (ht i (by omega))))
    (fun H' p => q Dl H' (fresh_back e1 p.1) (e1.trans p.2.1) (by rw [p.2.2, List.take_of_length_le (by rw [List.length_range]; exact Nat.le_refl _)]))⟩
theorem turn_nameD {j : Nat} {vs : List Nat} {o : Option V} (hw : wipe ((wipe σ vs).set j (some x)) vs = wipe σ vs) (ht : EvT t ((wipe σ vs).set j (some x)) G o.isSome) (he : ∀ y, o = some y → Ev te ((wipe σ vs).set j (some x)) G y) : Turn1 (gName j) t te vs σ G (fun _ => o) x :=
  ⟨_, fun H1 _ Q q => q H1 (Ex.refl H1), hw, ht, he⟩
theorem turn_mapD {j : Nat} {vs : List Nat} (hw : wipe ((wipe σ vs).set j (some x)) vs = wipe σ vs) (he : Ev te ((wipe σ vs).set j (some x)) G y) : Turn1 (gName j) tYes te vs σ G (fun _ => some y) x :=
  turn_nameD hw et_yes fun z hz => by
    obtain rfl := Option.some.inj hz
    exact he
theorem fm_map {β : Type} (F : α → β) (cs : List α) : cs.filterMap (fun c => some (F c)) = cs.map F := by
  induction cs with
  | nil => rfl
  | cons c r ih => rw [List.filterMap_cons, List.map_cons, ih]
end
end GR
namespace GR
open PySem PySem.Spec PyProof.Rows L2 Evl
theorem pgK {X : Cx} {K : PySem.W.Frag} {tg : Expr} {n : Nat} {t : TGs} (h : PG X tg (gTup X.K n t)) (e : X.K = K) : PG X tg (gTup K n t) := e ▸ h
end GR
namespace GR
open PySem PySem.Spec PyProof.Rows L2 Evl
section
variable {K : PySem.W.Frag} {σ : L2.St} {G H H' : Hp} {ta tb tc te tx : TE} {t u : TT} {x y z v : V} {D : Ends} {tu tw tz : TS} {g : TG}
theorem seqIx {k n : Nat} (h : k < n) : seqIndex? (k : Int) n = some k := by
  unfold seqIndex?
  simp
  omega
/-- xs.append(ys.pop(k)) -/
theorem a_appPop1 {l m : Addr} {xs ys : List V} {k : Nat} (e : Ex G H) (ha : Ev ta σ G (.ref l)) (hl : G l = some (.lst xs)) (hb : Ev tb σ G (.ref m)) (hm : G m = some (.lst ys)) (hlm : l ≠ m) (hi : Ev te σ G (.int (k : Int))) (hk : ys[k]? = some y) (hz : xs.length < 100000) (hy : ys.length < 100000)
    (q : ∀ H1, Ex (upd (upd G m (.lst (ys.eraseIdx k))) l (.lst (xs ++ [y]))) H1 → D.nx σ H1) : tDrop (tBM K "list" rAppend ta (tCons (tBM K "list" rPopAt tb (tCons te tNil)) tNil)) D σ H := by
  have hlt := (List.getElem?_eq_some_iff.mp hk).1
  exact ha H e _ fun H1 e1 => ⟨Or.inl ⟨rfl, xs, sq_of (e1 l _ (e l _ hl))⟩, hb H1 (e.trans e1) _ fun H2 e2 => ⟨Or.inl ⟨rfl, ys, sq_of (e2 m _ (e1 m _ (e m _ hm)))⟩, hi H2 ((e.trans e1).trans e2) _ fun H3 e3 =>
    ⟨m, ys, (k : Int), k, y, rfl, rfl, e3 m _ (e2 m _ (e1 m _ (e m _ hm))), by omega, by omega, seqIx hlt, hk, ⟨l, xs, y, rfl, rfl, by rw [upd_ne hlm]; exact e3 l _ (e2 l _ (e1 l _ (e l _ hl))), sz_lt hz, q _ (ex_upd (ex_upd (((e.trans e1).trans e2).trans e3) m _) l _)⟩⟩⟩⟩
/-- list(range(n)) -/
theorem el_listRg {n : Int} (h : Ev ta σ G (.int n)) (hn : 0 ≤ n ∧ n ≤ 100000) : EvL (tLstRg (tRg1 ta)) σ G (rng n) := fun H1 e Q q => h H1 e _ fun H2 e2 => ⟨n, rfl, by
    have e0 : rgV 0 n = rng n := by
      unfold rgV rng
      simp
    show RgOk 0 n ∧ ∀ (q : Addr), H2 q = none → Q (V.ref q) (upd H2 q (HO.lst (rgV 0 n)))
    rw [e0]
    refine ⟨?_, fun p hp => q p _ (fresh_back e2 hp) (e2.trans (Ex.new hp)) upd_same⟩
    unfold RgOk
    refine ⟨by omega, by omega, by omega, ?_⟩
    omega⟩
/-- tuple(xs) of a list, of a new one -/
theorem eu_tupL {p : Addr} {xs : List V} (ha : Ev ta σ G (.ref p)) (h : SqL K G p xs) : EvU (tCB (fun xs H Q => ∃ p ys, xs = [V.ref p] ∧ ((SqL K H p ys ∧ ∀ l, H l = none → Q (.ref l) (upd H l (.tup ys))) ∨ (SqT K H p ys ∧ Q (.ref p) H))) (tCons ta tNil)) σ G xs := fun H1 e Q q =>
  ha H1 e _ fun H2 e2 => ⟨p, xs, rfl, Or.inl ⟨ex_l (e.trans e2) h, fun l hl => q l _ (fresh_back e2 hl) (e2.trans (Ex.new hl)) upd_same⟩⟩
theorem eu_tupN {xs : List V} (ha : EvL ta σ G xs) : EvU (tCB (fun xs H Q => ∃ p ys, xs = [V.ref p] ∧ ((SqL K H p ys ∧ ∀ l, H l = none → Q (.ref l) (upd H l (.tup ys))) ∨ (SqT K H p ys ∧ Q (.ref p) H))) (tCons ta tNil)) σ G xs := fun H1 e Q q =>
  ha H1 e _ fun p H2 hp e2 h2 => ⟨p, xs, rfl, Or.inl ⟨sq_of h2, fun l hl => q l _ (fresh_back e2 hl) (e2.trans (Ex.new hl)) upd_same⟩⟩
theorem ev_min2 {i j : Int} (ha : Ev ta σ G (.int i)) (hb : Ev tb σ G (.int j)) : Ev (tCB (fun xs H Q => ∃ i j, xs = [V.int i, V.int j] ∧ Q (.int (if j < i then j else i)) H) (tCons ta (tCons tb tNil))) σ G (.int (if j < i then j else i)) := fun H1 e Q q =>
  ha H1 e _ fun H2 e2 => hb H2 (e.trans e2) _ fun H3 e3 => ⟨i, j, rfl, q H3 (e2.trans e3)⟩
theorem ev_max2' {i j : Int} (ha : Ev ta σ G (.int i)) (hb : Ev tb σ G (.int j)) : Ev (tCB (fun xs H Q => ∃ i j, xs = [V.int i, V.int j] ∧ Q (.int (if j > i then j else i)) H) (tCons ta (tCons tb tNil))) σ G (.int (if j > i then j else i)) := fun H1 e Q q =>
  ha H1 e _ fun H2 e2 => hb H2 (e.trans e2) _ fun H3 e3 => ⟨i, j, rfl, q H3 (e2.trans e3)⟩
/-- for i in range(a, b) -/
theorem a_forR2 {ta : TA} {j : Nat} {lo n : Int} (e : Ex G H) (h : EvA ta σ G [.int lo, .int n]) (hn : 0 ≤ lo ∧ lo ≤ 100000 ∧ -100000 ≤ n ∧ n ≤ 100000) (Pv : Nat → L2.St → Hp → Prop) (h0 : ∀ H1, Ex G H1 → Pv 0 σ H1)
    (hs : ∀ (i : Nat) σ' H', lo + (i : Int) < n → Pv i σ' H' → tu { D with nx := Pv (i + 1), ct := Pv (i + 1), bk := tz D } (σ'.set j (some (.int (lo + (i : Int))))) H') (hd : ∀ σ' H', Pv (n - lo).toNat σ' H' → tz D σ' H') : tSeq (tFor (iRng2 ta) (gName j) tu) tz D σ H :=
  q_forR2 (fun H1 e1 => h H1 (e.trans e1)) hn Pv (fun H1 e1 => h0 H1 (e.trans e1)) hs hd
/-- a value of which P holds where it stands -/
def EvP (te : TE) (σ : L2.St) (G : Hp) (P : V → Hp → Prop) : Prop := ∀ H1, Ex G H1 → ∀ Q : VK, (∀ v H2, Ex H1 H2 → P v H2 → Q v H2) → te σ H1 Q
theorem a_setP {i : Nat} {P : V → Hp → Prop} (e : Ex G H) (h : EvP te σ G P) (k : ∀ v H1, Ex G H1 → P v H1 → tz D (σ.set i (some v)) H1) : tSeq (tAsg te (gName i)) tz D σ H :=
  h H e _ fun v H1 e1 hP => k v H1 (e.trans e1) hP
theorem ep_call {sp : Sp} {vs : List V} {E : XK} {ta : TA} {P : V → Hp → Prop} (h : EvA ta σ G vs) (hs : ∀ H1, Ex G H1 → ∀ Q : VK, (∀ v H2, Ex H1 H2 → P v H2 → Q v H2) → ∀ E, sp vs H1 Q E) : EvP (tCall sp [] E ta) σ G P := fun H1 e Q q =>
  h H1 e _ fun H2 e2 => by
    rw [List.append_nil]
    exact hs H2 (e.trans e2) Q (fun v H3 e3 hP => q v H3 (e2.trans e3) hP) E
/-- arguments of which P holds -/
def EvAP (ta : TA) (σ : L2.St) (G : Hp) (P : List V → Hp → Prop) : Prop := ∀ H1, Ex G H1 → ∀ Q : List V → Hp → Prop, (∀ vs H2, Ex H1 H2 → P vs H2 → Q vs H2) → ta σ H1 Q
theorem ep_callP {sp : Sp} {E : XK} {ta : TA} {R : List V → Hp → Prop} {P : V → Hp → Prop} (h : EvAP ta σ G R) (hs : ∀ vs H1, Ex G H1 → R vs H1 → ∀ Q : VK, (∀ v H2, Ex H1 H2 → P v H2 → Q v H2) → ∀ E, sp vs H1 Q E) : EvP (tCall sp [] E ta) σ G P := fun H1 e Q q =>
  h H1 e _ fun vs H2 e2 hR => by
    rw [List.append_nil]
    exact hs vs H2 (e.trans e2) hR Q (fun v H3 e3 hP => q v H3 (e2.trans e3) hP) E
theorem eap_of {ta : TA} {vs : List V} (h : EvA ta σ G vs) : EvAP ta σ G (fun ws _ => ws = vs) := fun H1 e Q q => h H1 e _ fun H2 e2 => q vs H2 e2 rfl
theorem a_retP {P : V → Hp → Prop} (e : Ex G H) (h : EvP te σ G P) (k : ∀ v H1, Ex G H1 → P v H1 → D.rt v H1) : tRet te D σ H := h H e _ fun v H1 e1 hP => k v H1 (e.trans e1) hP
end
end GR
namespace GR
open PySem PySem.Spec PyProof.Rows L2 Evl
section
variable {K : PySem.W.Frag} {σ : L2.St} {G H H' : Hp} {ta tb tc te tx : TE} {t u : TT} {x y z v : V} {D : Ends} {tu tw tz : TS} {g : TG}
/-- an if without else, what follows shown once, from M -/
theorem a_whenS {M : L2.St → Hp → Prop} {b : Bool} (e : Ex G H) (h : EvT t σ G b) (h1 : b = true → ∀ H1, Ex G H1 → tu { D with nx := M } σ H1) (h2 : b = false → ∀ H1, Ex G H1 → M σ H1) (k : ∀ σ' H', M σ' H' → tz D σ' H') : tCut (tIfS t tu tNext) tz D σ H :=
  ⟨M, a_if (D := { D with nx := M }) e h h1 h2, k⟩
theorem a_ifS {M : L2.St → Hp → Prop} {b : Bool} (e : Ex G H) (h : EvT t σ G b) (h1 : b = true → ∀ H1, Ex G H1 → tu { D with nx := M } σ H1) (h2 : b = false → ∀ H1, Ex G H1 → tw { D with nx := M } σ H1) (k : ∀ σ' H', M σ' H' → tz D σ' H') : tCut (tIfS t tu tw) tz D σ H :=
  ⟨M, a_if (D := { D with nx := M }) e h h1 h2, k⟩
end
end GR
namespace GR
open PySem PySem.Spec PyProof.Rows L2 Evl
section
variable {K : PySem.W.Frag} {σ : L2.St} {G H H' : Hp} {ta tb tc te tx : TE} {t u : TT} {x y z v : V} {D : Ends} {tu tw tz : TS} {g : TG}
/-- a predicate of a value, of values, that stays when the heap grows -/
def MonoP (P : V → Hp → Prop) : Prop := ∀ v H H', Ex H H' → P v H → P v H'
def MonoR (R : List V → Hp → Prop) : Prop := ∀ v H H', Ex H H' → R v H → R v H'
theorem ep_of (h : Ev te σ G v) : EvP te σ G (fun w _ => w = v) := fun H1 e Q q => h H1 e _ fun H2 e2 => q v H2 e2 rfl
theorem ep_U {xs : List V} (h : EvU te σ G xs) : EvP te σ G (fun w H => ∃ p, w = .ref p ∧ H p = some (.tup xs)) := fun H1 e Q q => h H1 e _ fun p H2 _ e2 h2 => q _ H2 e2 ⟨p, rfl, h2⟩
theorem ep_L {xs : List V} (h : EvL te σ G xs) : EvP te σ G (fun w H => ∃ p, w = .ref p ∧ H p = some (.lst xs)) := fun H1 e Q q => h H1 e _ fun p H2 _ e2 h2 => q _ H2 e2 ⟨p, rfl, h2⟩
theorem mono_v {v : V} : MonoP (fun w _ => w = v) := fun _ _ _ _ h => h
theorem mono_U {xs : List V} : MonoP (fun w H => ∃ p, w = .ref p ∧ H p = some (.tup xs)) := fun _ _ _ e ⟨p, a, b⟩ => ⟨p, a, e _ _ b⟩
theorem mono_L {xs : List V} : MonoP (fun w H => ∃ p, w = .ref p ∧ H p = some (.lst xs)) := fun _ _ _ e ⟨p, a, b⟩ => ⟨p, a, e _ _ b⟩
def RNil : List V → Hp → Prop := fun vs _ => vs = []
def RCons (P : V → Hp → Prop) (R : List V → Hp → Prop) : List V → Hp → Prop := fun vs H => ∃ v r, vs = v :: r ∧ P v H ∧ R r H
theorem mono_nil : MonoR RNil := fun _ _ _ _ h => h
theorem mono_cons {P : V → Hp → Prop} {R : List V → Hp → Prop} (h1 : MonoP P) (h2 : MonoR R) : MonoR (RCons P R) := fun _ _ _ e ⟨v, r, a, b, c⟩ => ⟨v, r, a, h1 _ _ _ e b, h2 _ _ _ e c⟩
theorem eap_nil : EvAP tNil σ G RNil := fun H1 _ _ q => q [] H1 (Ex.refl H1) rfl
theorem eap_cons {tr : TA} {P : V → Hp → Prop} {R : List V → Hp → Prop} (h : EvP te σ G P) (m : MonoP P) (hr : EvAP tr σ G R) : EvAP (tCons te tr) σ G (RCons P R) := fun H1 e Q q =>
  h H1 e _ fun v H2 e2 hP => hr H2 (e.trans e2) _ fun vs H3 e3 hR => q _ H3 (e2.trans e3) ⟨v, vs, rfl, m _ _ _ e3 hP, hR⟩
theorem ep_tup {tr : TA} {R : List V → Hp → Prop} {n : Nat} (h : EvAP tr σ G R) (m : MonoR R) (hn : ∀ vs H, R vs H → vs.length = n) (hz : n ≤ 100000) : EvP (tTup tr) σ G (fun w H => ∃ p vs, w = .ref p ∧ H p = some (.tup vs) ∧ R vs H) := fun H1 e Q q =>
  h H1 e _ fun vs H2 e2 hR => ⟨sz_of (by rw [hn vs H2 hR]; exact hz), fun p hp => q _ _ (e2.trans (Ex.new hp)) ⟨p, vs, rfl, upd_same, m _ _ _ (Ex.new hp) hR⟩⟩
theorem mono_tup {R : List V → Hp → Prop} (m : MonoR R) : MonoP (fun w H => ∃ p vs, w = .ref p ∧ H p = some (.tup vs) ∧ R vs H) := fun _ _ _ e ⟨p, vs, a, b, c⟩ => ⟨p, vs, a, e _ _ b, m _ _ _ e c⟩
theorem len_nil : ∀ vs H, RNil vs H → vs.length = 0 := fun _ _ h => by rw [h]; rfl
theorem len_cons {P : V → Hp → Prop} {R : List V → Hp → Prop} {n : Nat} (h : ∀ vs H, R vs H → vs.length = n) : ∀ vs H, RCons P R vs H → vs.length = n + 1 := fun _ _ ⟨v, r, a, _, c⟩ => by rw [a, List.length_cons, h _ _ c]
/-- xs.append(e), e a value of which P holds -/
theorem a_appP1 {P : V → Hp → Prop} {l : Addr} {xs : List V} (e : Ex G H) (ha : Ev ta σ G (.ref l)) (hl : G l = some (.lst xs)) (h : EvP te σ G P) (hz : xs.length < 100000) (k : ∀ v H1, Ex G H1 → P v H1 → D.nx σ (upd H1 l (.lst (xs ++ [v])))) :
    tDrop (tBM K "list" rAppend ta (tCons te tNil)) D σ H :=
  ha H e _ fun H1 e1 => ⟨Or.inl ⟨rfl, xs, sq_of (e1 l _ (e l _ hl))⟩, h H1 (e.trans e1) _ fun v H2 e2 hP => ⟨l, xs, v, rfl, rfl, e2 l _ (e1 l _ (e l _ hl)), sz_lt hz, k v H2 ((e.trans e1).trans e2) hP⟩⟩
theorem a_appP {P : V → Hp → Prop} {l : Addr} {xs : List V} (e : Ex G H) (ha : Ev ta σ G (.ref l)) (hl : G l = some (.lst xs)) (h : EvP te σ G P) (hz : xs.length < 100000) (k : ∀ v H1, Ex G H1 → P v H1 → tz D σ (upd H1 l (.lst (xs ++ [v])))) :
    tSeq (tDrop (tBM K "list" rAppend ta (tCons te tNil))) tz D σ H := a_appP1 (D := { D with nx := tz D }) e ha hl h hz k
/-- tuples stay when a list changes -/
theorem st_upd {l a : Addr} {xs ys : List V} {o : HO} (h : SqT K H a xs) (hl : H l = some (.lst ys)) : SqT K (upd H l o) a xs := by
  rcases h with (h | ⟨ob, h⟩) | h
  · exact .inl (.inl (by rw [upd_ne (ne_of h hl (by intro z; cases z))]; exact h))
  · exact .inl (.inr ⟨ob, by rw [upd_ne (ne_of h hl (by intro z; cases z))]; exact h⟩)
  · exact .inr h
theorem a_retP' {P : V → Hp → Prop} (h : EvP te σ H P) (k : ∀ v H1, Ex H H1 → P v H1 → D.rt v H1) : tRet te D σ H := a_retP (Ex.refl H) h k
end
end GR
namespace GR
open PySem PySem.Spec PyProof.Rows L2 Evl
section
variable {K : PySem.W.Frag} {σ : L2.St} {G H H' : Hp} {ta tb tc te tx : TE} {t u : TT} {x y z v : V} {D : Ends} {tu tw tz : TS} {g : TG}
/-- f(..) as a statement in a try's body -/
theorem a_callX1S {sp : Sp} {E : L2.St → XK} {ta : TA} {vs : List V} (e : Ex G H) (h : EvA ta σ G vs) (k : ∀ H1, Ex G H1 → sp vs H1 (fun _ H2 => D.nx σ H2) (E σ)) : tDrop (tCallS sp E ta) D σ H :=
  h H e _ fun H1 e1 => k H1 (e.trans e1)
theorem a_callXS {sp : Sp} {E : L2.St → XK} {ta : TA} {vs : List V} (e : Ex G H) (h : EvA ta σ G vs) (k : ∀ H1, Ex G H1 → sp vs H1 (fun _ H2 => tz D σ H2) (E σ)) : tSeq (tDrop (tCallS sp E ta)) tz D σ H :=
  h H e _ fun H1 e1 => k H1 (e.trans e1)
end
end GR
namespace GR
open PySem PySem.Spec PyProof.Rows L2 Evl
section
variable {K : PySem.W.Frag} {σ : L2.St} {G H H' : Hp} {ta tb tc te tx : TE} {t u : TT} {x y z v : V} {D : Ends} {tu tw tz : TS} {g : TG}
theorem ep_lst {tr : TA} {R : List V → Hp → Prop} {n : Nat} (h : EvAP tr σ G R) (m : MonoR R) (hn : ∀ vs H, R vs H → vs.length = n) (hz : n ≤ 100000) : EvP (tLst tr) σ G (fun w H => ∃ p vs, w = .ref p ∧ H p = some (.lst vs) ∧ R vs H) := fun H1 e Q q =>
  h H1 e _ fun vs H2 e2 hR => ⟨sz_of (by rw [hn vs H2 hR]; exact hz), fun p hp => q _ _ (e2.trans (Ex.new hp)) ⟨p, vs, rfl, upd_same, m _ _ _ (Ex.new hp) hR⟩⟩
theorem ints_ne {ns : List Int} {a : Addr} {r : List V} : HO.lst (ns.map V.int) ≠ HO.lst (V.ref a :: r) := fun h => by
  injection h with h
  cases ns with
  | nil => cases h
  | cons n s =>
    rw [List.map_cons] at h
    injection h with h1 h2
    cases h1
end
end GR
namespace GR
open PySem PySem.Spec PyProof.Rows L2 Evl
section
variable {K : PySem.W.Frag} {σ : L2.St} {G H H' : Hp} {ta tb tc te tx : TE} {t u : TT} {x y z v : V} {D : Ends} {tu tw tz : TS} {g : TG}
/-- a new object of which P holds -/
def EvF (te : TE) (σ : L2.St) (G : Hp) (P : Addr → Hp → Prop) : Prop := ∀ H1, Ex G H1 → ∀ Q : VK, (∀ p H2, H1 p = none → Ex H1 H2 → P p H2 → Q (.ref p) H2) → te σ H1 Q
theorem a_setF {i : Nat} {P : Addr → Hp → Prop} (e : Ex G H) (h : EvF te σ G P) (k : ∀ p H1, G p = none → Ex G H1 → P p H1 → tz D (σ.set i (some (.ref p))) H1) : tSeq (tAsg te (gName i)) tz D σ H :=
  h H e _ fun p H1 hp e1 hP => k p H1 (fresh_back e hp) (e.trans e1) hP
theorem ef_lst {tr : TA} {R : List V → Hp → Prop} {n : Nat} (h : EvAP tr σ G R) (m : MonoR R) (hn : ∀ vs H, R vs H → vs.length = n) (hz : n ≤ 100000) : EvF (tLst tr) σ G (fun p H => ∃ vs, H p = some (.lst vs) ∧ R vs H) := fun H1 e Q q =>
  h H1 e _ fun vs H2 e2 hR => ⟨sz_of (by rw [hn vs H2 hR]; exact hz), fun p hp => q _ _ (fresh_back e2 hp) (e2.trans (Ex.new hp)) ⟨vs, upd_same, m _ _ _ (Ex.new hp) hR⟩⟩
theorem ef_tup {tr : TA} {R : List V → Hp → Prop} {n : Nat} (h : EvAP tr σ G R) (m : MonoR R) (hn : ∀ vs H, R vs H → vs.length = n) (hz : n ≤ 100000) : EvF (tTup tr) σ G (fun p H => ∃ vs, H p = some (.tup vs) ∧ R vs H) := fun H1 e Q q =>
  h H1 e _ fun vs H2 e2 hR => ⟨sz_of (by rw [hn vs H2 hR]; exact hz), fun p hp => q _ _ (fresh_back e2 hp) (e2.trans (Ex.new hp)) ⟨vs, upd_same, m _ _ _ (Ex.new hp) hR⟩⟩
theorem ne_new {p q : Addr} {o : HO} (h : G q = some o) (hp : G p = none) : q ≠ p := ne_of_none h hp
/-- two new lists compared -/
theorem ev_opNL {r : R2} {xs : List V} (ha : Ev ta σ G x) (hb : EvL tb σ G xs) (hr : ∀ p H1, H1 p = some (.lst xs) → Ex G H1 → RV r x (.ref p) H1 z) : Ev (tOp r ta tb) σ G z := ev_opL ha hb hr
theorem ev_opPL {r : R2} {P : V → Hp → Prop} (ha : Ev ta σ G x) (hb : EvP tb σ G P) (hr : ∀ w H1, P w H1 → Ex G H1 → RV r x w H1 z) : Ev (tOp r ta tb) σ G z := fun H1 e Q q =>
  ha H1 e _ fun H2 e2 => hb H2 (e.trans e2) _ fun w H3 e3 hP => hr w H3 hP ((e.trans e2).trans e3) H3 (Ex.refl H3) Q fun H4 e4 => q H4 ((e2.trans e3).trans e4)
end
end GR

namespace GR
open PySem PySem.Spec PyProof.Rows L2 Evl
def top (i : Nat) : Stmt := PySem.Challenge.pw_gatesread_k68_values_of_any_circuit.main.body.getD i (.Pass ⟨0, 0, 0, 0⟩)
abbrev s_check_bits : Stmt := top 4
abbrev s_cell_value : Stmt := top 6
abbrev s_cell_values : Stmt := top 8
abbrev s_circuit_outputs : Stmt := top 9
abbrev s_circuit_next : Stmt := top 10
abbrev s_law_cell : Stmt := top 12
abbrev s_law_parts : Stmt := top 13
abbrev s_law_is_integer : Stmt := top 14
abbrev s_law_is_bits : Stmt := top 15
abbrev s_law_bits : Stmt := top 16
abbrev s_law_wrong : Stmt := top 17
abbrev s_law_kind : Stmt := top 18
abbrev s_law_drawn : Stmt := top 19
abbrev s_law_circuit : Stmt := top 20
abbrev s_law_value : Stmt := top 21
abbrev s_law_values : Stmt := top 22
abbrev s_law_refuses : Stmt := top 23
abbrev s_law_right_case : Stmt := top 24
abbrev s_law_bare : Stmt := top 25
abbrev s_law : Stmt := top 26
theorem sc_check_bits : FnScope ["values", "count", "value"] ["values", "count"] (defScope s_check_bits) := ⟨rfl, rfl, rfl, by decide +kernel, rfl, by decide +kernel, by decide +kernel⟩
theorem sc_cell_value : FnScope ["kind", "values"] ["kind", "values"] (defScope s_cell_value) := ⟨rfl, rfl, rfl, by decide +kernel, rfl, by decide +kernel, by decide +kernel⟩
theorem sc_cell_values : FnScope ["circuit", "inputs", "states", "values", "latch", "kind", "sources", "output", "net"] ["circuit", "inputs", "states"] (defScope s_cell_values) := ⟨rfl, rfl, rfl, by decide +kernel, rfl, by decide +kernel, by decide +kernel⟩
theorem sc_circuit_outputs : FnScope ["circuit", "inputs", "states", "values", "net"] ["circuit", "inputs", "states"] (defScope s_circuit_outputs) := ⟨rfl, rfl, rfl, by decide +kernel, rfl, by decide +kernel, by decide +kernel⟩
theorem sc_circuit_next : FnScope ["circuit", "inputs", "states", "values", "kind", "sources", "output"] ["circuit", "inputs", "states"] (defScope s_circuit_next) := ⟨rfl, rfl, rfl, by decide +kernel, rfl, by decide +kernel, by decide +kernel⟩
theorem sc_law_cell : FnScope ["script", "k"] ["script", "k"] (defScope s_law_cell) := ⟨rfl, rfl, rfl, by decide +kernel, rfl, by decide +kernel, by decide +kernel⟩
theorem sc_law_parts : FnScope ["cell", "sizes", "parts", "rest", "k", "mixed"] ["cell", "sizes"] (defScope s_law_parts) := ⟨rfl, rfl, rfl, by decide +kernel, rfl, by decide +kernel, by decide +kernel⟩
theorem sc_law_is_integer : FnScope ["actual"] ["actual"] (defScope s_law_is_integer) := ⟨rfl, rfl, rfl, by decide +kernel, rfl, by decide +kernel, by decide +kernel⟩
theorem sc_law_is_bits : FnScope ["actual", "count", "bit"] ["actual", "count"] (defScope s_law_is_bits) := ⟨rfl, rfl, rfl, by decide +kernel, rfl, by decide +kernel, by decide +kernel⟩
theorem sc_law_bits : FnScope ["number", "count", "bits", "k"] ["number", "count"] (defScope s_law_bits) := ⟨rfl, rfl, rfl, by decide +kernel, rfl, by decide +kernel, by decide +kernel⟩
theorem sc_law_wrong : FnScope ["bits", "choice", "item", "at"] ["bits", "choice"] (defScope s_law_wrong) := ⟨rfl, rfl, rfl, by decide +kernel, rfl, by decide +kernel, by decide +kernel⟩
theorem sc_law_kind : FnScope ["parts", "nets", "latches", "kinds", "kind"] ["parts", "nets", "latches"] (defScope s_law_kind) := ⟨rfl, rfl, rfl, by decide +kernel, rfl, by decide +kernel, by decide +kernel⟩
theorem sc_law_drawn : FnScope ["parts", "count", "nets", "left", "drawn", "k"] ["parts", "count", "nets"] (defScope s_law_drawn) := ⟨rfl, rfl, rfl, by decide +kernel, rfl, by decide +kernel, by decide +kernel⟩
theorem sc_law_circuit : FnScope ["script", "most", "head", "cells", "latches", "total", "net", "parts", "kind", "outputs", "k"] ["script", "most"] (defScope s_law_circuit) := ⟨rfl, rfl, rfl, by decide +kernel, rfl, by decide +kernel, by decide +kernel⟩
theorem sc_law_value : FnScope ["kind", "bits"] ["kind", "bits"] (defScope s_law_value) := ⟨rfl, rfl, rfl, by decide +kernel, rfl, by decide +kernel, by decide +kernel⟩
theorem sc_law_values : FnScope ["circuit", "inputs", "states", "values", "latch", "cell", "net"] ["circuit", "inputs", "states"] (defScope s_law_values) := ⟨rfl, rfl, rfl, by decide +kernel, rfl, by decide +kernel, by decide +kernel⟩
theorem sc_law_refuses : FnScope ["circuit", "inputs", "states", "count"] ["circuit", "inputs", "states"] (defScope s_law_refuses) := ⟨rfl, rfl, rfl, by decide +kernel, rfl, by decide +kernel, by decide +kernel⟩
theorem sc_law_right_case : FnScope ["circuit", "inputs", "states", "due", "passed", "told", "following", "cell", "net"] ["circuit", "inputs", "states"] (defScope s_law_right_case) := ⟨rfl, rfl, rfl, by decide +kernel, rfl, by decide +kernel, by decide +kernel⟩
theorem sc_law_bare : FnScope ["script", "circuit", "net"] ["script", "circuit"] (defScope s_law_bare) := ⟨rfl, rfl, rfl, by decide +kernel, rfl, by decide +kernel, by decide +kernel⟩
theorem sc_law : FnScope ["script", "circuit", "latches", "parts", "k", "bits", "inputs", "states"] ["script"] (defScope s_law) := ⟨rfl, rfl, rfl, by decide +kernel, rfl, by decide +kernel, by decide +kernel⟩
structure A where
  f_check_bits : Addr
  d_check_bits : FuncData
  f_cell_value : Addr
  d_cell_value : FuncData
  f_cell_values : Addr
  d_cell_values : FuncData
  f_circuit_outputs : Addr
  d_circuit_outputs : FuncData
  f_circuit_next : Addr
  d_circuit_next : FuncData
  f_law_cell : Addr
  d_law_cell : FuncData
  f_law_parts : Addr
  d_law_parts : FuncData
  f_law_is_integer : Addr
  d_law_is_integer : FuncData
  f_law_is_bits : Addr
  d_law_is_bits : FuncData
  f_law_bits : Addr
  d_law_bits : FuncData
  f_law_wrong : Addr
  d_law_wrong : FuncData
  f_law_kind : Addr
  d_law_kind : FuncData
  f_law_drawn : Addr
  d_law_drawn : FuncData
  f_law_circuit : Addr
  d_law_circuit : FuncData
  f_law_value : Addr
  d_law_value : FuncData
  f_law_values : Addr
  d_law_values : FuncData
  f_law_refuses : Addr
  d_law_refuses : FuncData
  f_law_right_case : Addr
  d_law_right_case : FuncData
  f_law_bare : Addr
  d_law_bare : FuncData
  f_law : Addr
  d_law : FuncData
  C_GatesError : Addr
  C_InvalidValues : Addr
structure Top (K : PySem.W.Frag) (mg : Str → Option Value) (w : World) (a : A) : Prop where
  F_check_bits : Fun K "check_bits" "check_bits" s_check_bits a.f_check_bits a.d_check_bits
  b_check_bits : Binds K a.d_check_bits ["values", "count"] []
  g_check_bits : mg "check_bits" = some (.ref a.f_check_bits)
  F_cell_value : Fun K "cell_value" "cell_value" s_cell_value a.f_cell_value a.d_cell_value
  b_cell_value : Binds K a.d_cell_value ["kind", "values"] []
  g_cell_value : mg "cell_value" = some (.ref a.f_cell_value)
  F_cell_values : Fun K "cell_values" "cell_values" s_cell_values a.f_cell_values a.d_cell_values
  b_cell_values : Binds K a.d_cell_values ["circuit", "inputs", "states"] []
  g_cell_values : mg "cell_values" = some (.ref a.f_cell_values)
  F_circuit_outputs : Fun K "circuit_outputs" "circuit_outputs" s_circuit_outputs a.f_circuit_outputs a.d_circuit_outputs
  b_circuit_outputs : Binds K a.d_circuit_outputs ["circuit", "inputs", "states"] []
  g_circuit_outputs : mg "circuit_outputs" = some (.ref a.f_circuit_outputs)
  F_circuit_next : Fun K "circuit_next" "circuit_next" s_circuit_next a.f_circuit_next a.d_circuit_next
  b_circuit_next : Binds K a.d_circuit_next ["circuit", "inputs", "states"] []
  g_circuit_next : mg "circuit_next" = some (.ref a.f_circuit_next)
  F_law_cell : Fun K "_law_cell" "_law_cell" s_law_cell a.f_law_cell a.d_law_cell
  b_law_cell : Binds K a.d_law_cell ["script", "k"] []
  g_law_cell : mg "_law_cell" = some (.ref a.f_law_cell)
  F_law_parts : Fun K "_law_parts" "_law_parts" s_law_parts a.f_law_parts a.d_law_parts
  b_law_parts : Binds K a.d_law_parts ["cell", "sizes"] []
  g_law_parts : mg "_law_parts" = some (.ref a.f_law_parts)
  F_law_is_integer : Fun K "_law_is_integer" "_law_is_integer" s_law_is_integer a.f_law_is_integer a.d_law_is_integer
  b_law_is_integer : Binds K a.d_law_is_integer ["actual"] []
  g_law_is_integer : mg "_law_is_integer" = some (.ref a.f_law_is_integer)
  F_law_is_bits : Fun K "_law_is_bits" "_law_is_bits" s_law_is_bits a.f_law_is_bits a.d_law_is_bits
  b_law_is_bits : Binds K a.d_law_is_bits ["actual", "count"] []
  g_law_is_bits : mg "_law_is_bits" = some (.ref a.f_law_is_bits)
  F_law_bits : Fun K "_law_bits" "_law_bits" s_law_bits a.f_law_bits a.d_law_bits
  b_law_bits : Binds K a.d_law_bits ["number", "count"] []
  g_law_bits : mg "_law_bits" = some (.ref a.f_law_bits)
  F_law_wrong : Fun K "_law_wrong" "_law_wrong" s_law_wrong a.f_law_wrong a.d_law_wrong
  b_law_wrong : Binds K a.d_law_wrong ["bits", "choice"] []
  g_law_wrong : mg "_law_wrong" = some (.ref a.f_law_wrong)
  F_law_kind : Fun K "_law_kind" "_law_kind" s_law_kind a.f_law_kind a.d_law_kind
  b_law_kind : Binds K a.d_law_kind ["parts", "nets", "latches"] []
  g_law_kind : mg "_law_kind" = some (.ref a.f_law_kind)
  F_law_drawn : Fun K "_law_drawn" "_law_drawn" s_law_drawn a.f_law_drawn a.d_law_drawn
  b_law_drawn : Binds K a.d_law_drawn ["parts", "count", "nets"] []
  g_law_drawn : mg "_law_drawn" = some (.ref a.f_law_drawn)
  F_law_circuit : Fun K "_law_circuit" "_law_circuit" s_law_circuit a.f_law_circuit a.d_law_circuit
  b_law_circuit : Binds K a.d_law_circuit ["script", "most"] []
  g_law_circuit : mg "_law_circuit" = some (.ref a.f_law_circuit)
  F_law_value : Fun K "_law_value" "_law_value" s_law_value a.f_law_value a.d_law_value
  b_law_value : Binds K a.d_law_value ["kind", "bits"] []
  g_law_value : mg "_law_value" = some (.ref a.f_law_value)
  F_law_values : Fun K "_law_values" "_law_values" s_law_values a.f_law_values a.d_law_values
  b_law_values : Binds K a.d_law_values ["circuit", "inputs", "states"] []
  g_law_values : mg "_law_values" = some (.ref a.f_law_values)
  F_law_refuses : Fun K "_law_refuses" "_law_refuses" s_law_refuses a.f_law_refuses a.d_law_refuses
  b_law_refuses : Binds K a.d_law_refuses ["circuit", "inputs", "states"] []
  g_law_refuses : mg "_law_refuses" = some (.ref a.f_law_refuses)
  F_law_right_case : Fun K "_law_right_case" "_law_right_case" s_law_right_case a.f_law_right_case a.d_law_right_case
  b_law_right_case : Binds K a.d_law_right_case ["circuit", "inputs", "states"] []
  g_law_right_case : mg "_law_right_case" = some (.ref a.f_law_right_case)
  F_law_bare : Fun K "_law_bare" "_law_bare" s_law_bare a.f_law_bare a.d_law_bare
  b_law_bare : Binds K a.d_law_bare ["script", "circuit"] []
  g_law_bare : mg "_law_bare" = some (.ref a.f_law_bare)
  F_law : Fun K "law" "law" s_law a.f_law a.d_law
  b_law : Binds K a.d_law ["script"] []
  g_law : mg "law" = some (.ref a.f_law)
  g_GatesError : mg "GatesError" = some (.ref a.C_GatesError)
  g_InvalidValues : mg "InvalidValues" = some (.ref a.C_InvalidValues)
  x_GatesError : PySem.W.excIn K a.C_GatesError [.type "ValueError", .type "Exception", .type "BaseException", .type "object"] "ValueError.__new__" = true
  k_GatesError : PySem.W.keepIn K (.ref a.C_GatesError) = true
  b_GatesError : PySem.W.subIn K (.ref a.C_GatesError) (.type "BaseException") = some true
  t_GatesError : PySem.W.typeIn K (.ref a.C_GatesError) = some (.type "type")
  e_GatesError_GatesError : PySem.W.exmOne K (.ref a.C_GatesError) (.ref a.C_GatesError) = some true
  x_InvalidValues : PySem.W.excIn K a.C_InvalidValues [.type "ValueError", .type "Exception", .type "BaseException", .type "object"] "ValueError.__new__" = true
  k_InvalidValues : PySem.W.keepIn K (.ref a.C_InvalidValues) = true
  b_InvalidValues : PySem.W.subIn K (.ref a.C_InvalidValues) (.type "BaseException") = some true
  t_InvalidValues : PySem.W.typeIn K (.ref a.C_InvalidValues) = some (.type "type")
  e_InvalidValues_InvalidValues : PySem.W.exmOne K (.ref a.C_InvalidValues) (.ref a.C_InvalidValues) = some true
  e_InvalidValues_GatesError : PySem.W.exmOne K (.ref a.C_InvalidValues) (.ref a.C_GatesError) = some true
  z_bool : mg "bool" = none
  z_int : mg "int" = none
  z_isinstance : mg "isinstance" = none
  z_len : mg "len" = none
  z_list : mg "list" = none
  z_max : mg "max" = none
  z_min : mg "min" = none
  z_range : mg "range" = none
  z_sum : mg "sum" = none
  z_tuple : mg "tuple" = none
section
variable {P : Program} {w : World} {K : PySem.W.Frag} {mg : Str → Option Value} {base : Heap} {a : A}
/-! ### evaluation by the reading's head -/
local macro_rules | `(tactic| walk_at "sq") => `(tactic| first
  | assumption
  | exact sq_of upd_same | exact st_of upd_same
  | exact sq_of (by assumption) | exact st_of (by assumption)
  | exact ex_l (Ex.new (by assumption)) (by assumption) | exact ex_t (Ex.new (by assumption)) (by assumption)
  | exact ex_l (by assumption) (by assumption) | exact ex_t (by assumption) (by assumption))
local macro_rules | `(tactic| walk_at "rv") => `(tactic| first
  | exact rv_I0
  | exact rv_eq rfl | exact rv_ne rfl
  | exact rv_ixL (by walk_at "sq") (by first | assumption | rfl)
  | exact rv_ixT (by walk_at "sq") (by first | assumption | rfl)
  | exact rv_I (by first | assumption | decide | omega | exact ⟨by decide, by decide, by decide⟩ | exact .inl ⟨by omega, by omega⟩ | exact .inr ⟨by omega, by omega⟩))
local macro_rules | `(tactic| walk_at "ev") => `(tactic| first
  | exact ev_var rfl
  | exact ev_c
  | exact ea_nil
  | (apply ea_cons; (walk_at "ev"); (walk_at "ev"))
  | (apply ev_op; (walk_at "ev"); (walk_at "ev"); (walk_at "rv"))
  | (apply ev_un; (walk_at "ev"); exact ru_neg)
  | (apply ev_int1; (walk_at "ev"))
  | (apply ev_lenS; (walk_at "ev"); (walk_at "sq"))
  | (apply ev_lenT; (walk_at "ev"); (walk_at "sq"))
  | (apply et_test; (walk_at "ev"))
  | (apply et_B; (walk_at "ev"))
  | (apply et_not; (walk_at "ev"))
  | (apply ev_notV; (walk_at "ev"))
  | (apply el_lst; (walk_at "ev"); decide)
  | (apply eu_tup; (walk_at "ev"); decide))

/-! ### _law_cell -/
def sp_law_cell (K : PySem.W.Frag) : Sp := fun vs H Q _ => ∃ (l : Addr) (ns : List Int) (j : Nat), vs = [.ref l, .int (j : Int)] ∧ SqL K H l (ns.map V.int) ∧ RetV (.int (cellOf ns j)) H Q
theorem ok_law_cell (T : Top K mg w a) : FnOk P w K mg base CX0 1 a.f_law_cell a.d_law_cell ["script", "k"] (sp_law_cell K) := by
  refine T.F_law_cell.ok sc_law_cell (fun vs H Q E h => ?_) (fun cdv A outer s H vs Q E hr h => ?_)
  · obtain ⟨l, ns, j, rfl, _⟩ := h
    rfl
  · obtain ⟨l, ns, j, rfl, hS, q⟩ := h
    refine ⟨_, (pss_cons (ps_if (pt_cmpR op_lt (pv 1) (pe_callB call_len_seq (by rfl) T.z_len (by decide +kernel) (pa_cons (pv 0) pa_nil)) (nomark _))
      (pss_one (ps_ret (pe_ix ix_list (pv 0) (pv 1) (fun _ _ => rfl))))
      pss_nil)
      (pss_one (ps_ret pe_int))), ?_⟩
    refine a_when (Ex.refl H) (by walk_at "ev") (fun hb H1 e1 => ?_) (fun hb H1 e1 => ?_)
    · have hj : j < ns.length := by
        have z := of_decide_eq_true hb
        rw [List.length_map] at z
        omega
      exact a_ret e1 (ev_op (ev_var rfl) (ev_var rfl) (rv_ixL hS (at_map hj))) q
    · have hj : ¬ j < ns.length := by
        have z := of_decide_eq_false hb
        rw [List.length_map] at z
        omega
      have e : cellOf ns j = 0 := by
        unfold cellOf
        rw [List.getD_eq_getElem?_getD, List.getElem?_eq_none (by omega)]
        rfl
      rw [e] at q
      exact a_ret e1 ev_c q

/-! ### _law_parts -/
def sp_law_parts (K : PySem.W.Frag) : Sp := fun vs H Q _ => ∃ (c : Int) (l : Addr) (sizes : List Int), vs = [.int c, .ref l] ∧ SqL K H l (sizes.map V.int) ∧ sizes.length ≤ 1000 ∧ (∀ s ∈ sizes, 0 < s ∧ s ≤ 1000000000) ∧ ∀ ns, Draw ns sizes → RetL (ns.map V.int) H Q
theorem draw_step {ns sizes : List Int} {i : Nat} {x : Int} (hl : ns.length = i) (h : ∀ k, k < i → 0 ≤ ns.getD k 0 ∧ ns.getD k 0 < sizes.getD k 0) (h0 : 0 ≤ x) (h1 : x < sizes.getD i 0) :
    (ns ++ [x]).length = i + 1 ∧ ∀ k, k < i + 1 → 0 ≤ (ns ++ [x]).getD k 0 ∧ (ns ++ [x]).getD k 0 < sizes.getD k 0 := by
  refine ⟨by rw [List.length_append, hl]; rfl, fun k hk => ?_⟩
  by_cases q : k < i
  · have e : (ns ++ [x]).getD k 0 = ns.getD k 0 := by
      rw [List.getD_eq_getElem?_getD, List.getElem?_append_left (by omega), ← List.getD_eq_getElem?_getD]
    rw [e]
    exact h k q
  · have e2 : k = i := by omega
    subst e2
    have e : (ns ++ [x]).getD k 0 = x := by
      rw [List.getD_eq_getElem?_getD, List.getElem?_append_right (by omega), hl, Nat.sub_self]
      rfl
    rw [e]
    exact ⟨h0, h1⟩
theorem ok_law_parts (T : Top K mg w a) : FnOk P w K mg base CX0 1 a.f_law_parts a.d_law_parts ["cell", "sizes"] (sp_law_parts K) := by
  refine T.F_law_parts.ok sc_law_parts (fun vs H Q E h => ?_) (fun cdv A outer s H vs Q E hr h => ?_)
  · obtain ⟨c, l, sizes, rfl, _⟩ := h
    rfl
  · obtain ⟨c, l, sizes, rfl, hS, hlen, hpos, q⟩ := h
    refine ⟨_, (pss_cons (ps_set (i := 2) sc_law_parts.nd rfl (Or.inl rfl) (pe_lst pa_nil))
      (pss_cons (ps_set (i := 3) sc_law_parts.nd rfl (Or.inl rfl) (pe_op op_sub (pv 0) (pe_op op_pow pe_int pe_int)))
      (pss_cons (ps_for PassesOwn.never rfl (pi_range1 rfl T.z_range (pa_cons (pe_callB call_len_seq (by rfl) T.z_len (by decide +kernel) (pa_cons (pv 1) pa_nil)) pa_nil)) (pg_name (i := 4) sc_law_parts.nd rfl (Or.inl rfl))
      (pss_one (ps_if (pt_cmpR op_ge (pv 3) pe_int (nomark _))
      (pss_cons (ps_expr (pe_bm PySem.F.plainAttrs_list PySem.F.slot_list_append PySem.F.type_list_append mt_append (pv 2) (pa_cons (pe_op op_mod (pe_callTy call_int1 (by rfl) T.z_int (by decide +kernel) (pa_cons (pv 3) pa_nil)) (pe_ix ix_list (pv 1) (pv 4) (fun _ _ => rfl))) pa_nil)))
      (pss_one (ps_set (i := 3) sc_law_parts.nd rfl (Or.inl rfl) (pe_op op_fdivW (pv 3) (pe_ix ix_list (pv 1) (pv 4) (fun _ _ => rfl))))))
      (pss_cons (ps_set (i := 5) sc_law_parts.nd rfl (Or.inl rfl) (pe_op op_mod (pe_callTy call_int1 (by rfl) T.z_int (by decide +kernel) (pa_cons (pe_op op_add (pe_op op_add (pe_op op_mul (pv 0) pe_int) (pe_op op_mul (pv 4) pe_int)) pe_int) pa_nil)) pe_int))
      (pss_cons (ps_set (i := 5) sc_law_parts.nd rfl (Or.inl rfl) (pe_op op_mod (pe_callTy call_int1 (by rfl) T.z_int (by decide +kernel) (pa_cons (pe_op op_add (pe_op op_add (pe_op op_mul (pv 5) (pv 5)) (pe_op op_mul pe_int (pv 4))) pe_int) pa_nil)) pe_int))
      (pss_one (ps_expr (pe_bm PySem.F.plainAttrs_list PySem.F.slot_list_append PySem.F.type_list_append mt_append (pv 2) (pa_cons (pe_op op_mod (pe_callTy call_int1 (by rfl) T.z_int (by decide +kernel) (pa_cons (pv 5) pa_nil)) (pe_ix ix_list (pv 1) (pv 4) (fun _ _ => rfl))) pa_nil)))))))))
      (pss_one (ps_ret (pv 2)))))), ?_⟩
    refine a_setL (Ex.refl H) (by walk_at "ev") (fun p H1 hp e1 => ?_)
    refine a_set e1 (by walk_at "ev") (fun H2 e2 => ?_)
    refine a_forR (n := (sizes.length : Int)) e2 (ea_cons (ev_is (ev_lenS (ev_var rfl) (ex_l (Ex.new hp) hS)) (by rw [List.length_map])) ea_nil) ⟨by omega, by omega⟩
      (fun i σ' H' => ∃ (rest : Int) (y m : Option V) (ns : List Int), σ' = [some (.int c), some (.ref l), some (.ref p), some (.int rest), y, m] ∧ ns.length = i ∧ (∀ k, k < i → 0 ≤ ns.getD k 0 ∧ ns.getD k 0 < sizes.getD k 0) ∧ Ex (upd H p (.lst (ns.map V.int))) H')
      (fun H3 e3 => ⟨_, _, _, [], rfl, rfl, fun k hk => absurd hk (Nat.not_lt_zero k), e3⟩) ?_ ?_
    · rintro i σ' H' hi ⟨rest, y, m, ns, rfl, hl, hd, e3⟩
      have hil : i < sizes.length := by omega
      have hsz : 0 < sizes.getD i 0 ∧ sizes.getD i 0 ≤ 1000000000 := by
        refine hpos _ ?_
        rw [List.getD_eq_getElem?_getD, List.getElem?_eq_getElem hil]
        exact List.getElem_mem hil
      have hSi : SqL K (upd H p (.lst (ns.map V.int))) l (sizes.map V.int) := ex_l (Ex.new hp) hS
      have hz : (ns.map V.int).length < 100000 := by rw [List.length_map, hl]; omega
      refine a_if e3 (et_test (ev_op (ev_var rfl) ev_c rv_I0)) (fun hb H4 e4 => ?_) (fun hb H4 e4 => ?_)
      · refine a_app (v := .int (rest % sizes.getD i 0)) e4 (ev_var rfl) upd_same (ev_op (ev_int1 (ev_var rfl)) (ev_op (ev_var rfl) (ev_var rfl) (rv_ixL hSi (at_map hil))) (rv_I hsz.1)) hz (fun H5 e5 => ?_)
        rw [upd_upd] at e5
        refine a_set1 e5 (ev_op (ev_var rfl) (ev_op (ev_var rfl) (ev_var rfl) (rv_ixL (ex_l (Ex.new hp) hS) (at_map hil))) (rv_I (wide_div (b := 64) hsz.1 (by omega) (by decide) (by decide)))) (fun H6 e6 => ?_)
        obtain ⟨g1, g2⟩ := draw_step hl hd (Int.emod_nonneg rest (by omega)) (Int.emod_lt_of_pos rest hsz.1)
        refine ⟨_, _, _, ns ++ [rest % sizes.getD i 0], rfl, g1, g2, ?_⟩
        rw [List.map_append]
        exact e6
      · refine a_set (v := .int ((c * 48271 + (i : Int) * 69621 + 11) % 2147483647)) e4 (ev_op (ev_int1 (ev_op (ev_op (ev_op (ev_var rfl) ev_c (rv_I (.inr ⟨by decide, by decide⟩))) (ev_op (ev_var rfl) ev_c (rv_I (.inr ⟨by decide, by decide⟩))) rv_I0) ev_c rv_I0)) ev_c (rv_I (by decide))) (fun H5 e5 => ?_)
        have m1 : 0 ≤ (c * 48271 + (i : Int) * 69621 + 11) % 2147483647 := Int.emod_nonneg _ (by decide)
        have m2 : (c * 48271 + (i : Int) * 69621 + 11) % 2147483647 < 2147483647 := Int.emod_lt_of_pos _ (by decide)
        generalize (c * 48271 + (i : Int) * 69621 + 11) % 2147483647 = mx at m1 m2 ⊢
        refine a_set (v := .int ((mx * mx + 16807 * (i : Int) + 5) % 998244353)) e5 (ev_op (ev_int1 (ev_op (ev_op (ev_op (ev_var rfl) (ev_var rfl) (rv_I (.inl ⟨by omega, by omega⟩))) (ev_op ev_c (ev_var rfl) (rv_I (.inl ⟨by decide, by decide⟩))) rv_I0) ev_c rv_I0)) ev_c (rv_I (by decide))) (fun H6 e6 => ?_)
        generalize (mx * mx + 16807 * (i : Int) + 5) % 998244353 = my
        refine a_app1 (v := .int (my % sizes.getD i 0)) e6 (ev_var rfl) upd_same (ev_op (ev_int1 (ev_var rfl)) (ev_op (ev_var rfl) (ev_var rfl) (rv_ixL hSi (at_map hil))) (rv_I hsz.1)) hz (fun H7 e7 => ?_)
        rw [upd_upd] at e7
        obtain ⟨g1, g2⟩ := draw_step hl hd (Int.emod_nonneg my (by omega)) (Int.emod_lt_of_pos my hsz.1)
        refine ⟨_, _, _, ns ++ [my % sizes.getD i 0], rfl, g1, g2, ?_⟩
        rw [List.map_append]
        exact e7
    · rintro σ' H' ⟨rest, y, m, ns, rfl, hl, hd, e3⟩
      have en : ns.length = sizes.length := by rw [hl]; exact Int.toNat_natCast _
      refine a_ret e3 (ev_var rfl) (fun H4 e4 => ?_)
      exact q ns ⟨en, fun k hk => hd k (by omega)⟩ p H4 hp (fun b o z => e4 b o ((Ex.new hp) b o z)) (e4 p _ upd_same)

def sp_law_is_integer (K : PySem.W.Frag) : Sp := fun vs H Q _ => ∃ (i : Int), vs = [.int i] ∧ RetV (.bl true) H Q
theorem ok_law_is_integer (T : Top K mg w a) : FnOk P w K mg base CX0 1 a.f_law_is_integer a.d_law_is_integer ["actual"] (sp_law_is_integer K) := by
  refine T.F_law_is_integer.ok sc_law_is_integer (fun vs H Q E h => ?_) (fun cdv A outer s H vs Q E hr h => ?_)
  · obtain ⟨i, rfl, _⟩ := h
    rfl
  · obtain ⟨i, rfl, q⟩ := h
    refine ⟨_, (pss_one (ps_ret (pe_and (pe_callB call_isi (by rfl) T.z_isinstance (by decide +kernel) (pa_cons (pv 0) (pa_cons (pe_bltn (v := .ty "int") (by rfl) T.z_int (by decide +kernel) rfl) pa_nil))) (pe_one (pe_not (pe_callB call_isi (by rfl) T.z_isinstance (by decide +kernel) (pa_cons (pv 0) (pa_cons (pe_bltn (v := .ty "bool") (by rfl) T.z_bool (by decide +kernel) rfl) pa_nil)))))))), ?_⟩
    exact a_ret (Ex.refl H) (ev_andV (ev_isiInt (ev_var rfl)) fun _ => ev_notV (ev_isiIntB (ev_var rfl))) q

/-! ### check_bits -/
def GoodB (xs : List Int) (c : Int) : Prop := (xs.length : Int) = c ∧ ∀ x ∈ xs, x = 0 ∨ x = 1
def Small (xs : List Int) : Prop := xs.length ≤ 1000 ∧ ∀ x ∈ xs, x.natAbs < 10000000000
def sp_check_bits (K : PySem.W.Frag) (a : A) : Sp := fun vs H Q E => ∃ (l : Addr) (xs : List Int) (c : Int), vs = [.ref l, .int c] ∧ SqL K H l (xs.map V.int) ∧ Small xs ∧ c.natAbs < 1000 ∧ (GoodB xs c → RetV .non H Q) ∧ (¬ GoodB xs c → ∀ H', Ex H H' → E (.ref a.C_InvalidValues) none H')
theorem log2_small {i : Int} (h : i.natAbs < 10000000000) : i.natAbs.log2 < 1920 := by
  by_cases h0 : i.natAbs = 0
  · rw [h0]; decide
  · have h1 := (Nat.log2_lt h0 (k := 64)).mpr (by omega)
    omega
theorem fmt_int {σ : L2.St} {G : Hp} {ta : TE} {i : Int} (h : Ev ta σ G (.int i)) (hi : i.natAbs < 10000000000) : Ev (tFmt ta) σ G (.str (toString i)) := fun H1 e Q q =>
  h H1 e _ fun H2 e2 => .inr ⟨i, rfl, log2_small hi, q H2 e2⟩
theorem fmtR_int {σ : L2.St} {G : Hp} {ta : TE} {i : Int} (h : Ev ta σ G (.int i)) (hi : i.natAbs < 10000000000) : Ev (tFmtR ta) σ G (.str (toString i)) := fun H1 e Q q =>
  h H1 e _ fun H2 e2 => .inr ⟨i, rfl, log2_small hi, q H2 e2⟩
theorem toStr_len {i : Int} (h : i.natAbs < 10000000000) : (Str.ofString (toString i)).length ≤ 2000 := Nat.le_trans (PyProof.Rows.int_text_len_1921 (log2_small h)) (by decide)
theorem inV_bits {x : Int} : inV (.int x) [.int 0, .int 1] = decide (x = 0 ∨ x = 1) := by
  show (((0 : Int) == x) || (((1 : Int) == x) || false)) = _
  by_cases h0 : x = 0
  · subst h0; rfl
  · by_cases h1 : x = 1
    · subst h1; rfl
    · have a0 : ((0 : Int) == x) = false := by simpa using fun z => h0 z.symm
      have a1 : ((1 : Int) == x) = false := by simpa using fun z => h1 z.symm
      rw [a0, a1]; simp [h0, h1]
theorem ok_check_bits (T : Top K mg w a) : FnOk P w K mg base (L2.CX P w) 1 a.f_check_bits a.d_check_bits ["values", "count"] (sp_check_bits K a) := by
  refine T.F_check_bits.okX sc_check_bits (fun vs H Q E h => ?_) (fun cdv A outer s H vs Q E hr h => ?_)
  · obtain ⟨l, xs, c, rfl, _⟩ := h
    rfl
  · obtain ⟨l, xs, c, rfl, hS, hsm, hc, hg, hb⟩ := h
    refine ⟨_, (pss_cons (ps_if (pt_cmpR op_ne (pe_callB call_len_seq (by rfl) T.z_len (by decide +kernel) (pa_cons (pv 0) pa_nil)) (pv 1) (nomark _))
      (pss_one (ps_raise rfl (takes_of rfl rfl rfl rfl) (SkE.pmk_own1 PySem.F.excBase_ValueError T.x_InvalidValues T.g_InvalidValues T.k_InvalidValues (raises_own T.b_InvalidValues T.t_InvalidValues) rfl (pe_joined (.cons (pe_fmt (pe_callB call_len_seq (by rfl) T.z_len (by decide +kernel) (pa_cons (pv 0) pa_nil))) (.cons pe_str (.cons (pe_fmt (pv 1)) .nil)))))))
      pss_nil)
      (pss_one (ps_for (passes_of rfl) rfl (pi_list (pv 0)) (pg_name (i := 2) sc_check_bits.nd rfl (Or.inl rfl))
      (pss_one (ps_if (pt_cmpR op_notIn_seq (pv 2) (pe_tup (pa_cons pe_int (pa_cons pe_int pa_nil))) (by rfl))
      (pss_one (ps_raise rfl (takes_of rfl rfl rfl rfl) (SkE.pmk_own1 PySem.F.excBase_ValueError T.x_InvalidValues T.g_InvalidValues T.k_InvalidValues (raises_own T.b_InvalidValues T.t_InvalidValues) rfl (pe_joined (.cons (pe_fmtR (pv 2)) (.cons pe_str .nil))))))
      pss_nil))))), ?_⟩
    refine a_when (Ex.refl H) (et_test (ev_op (ev_lenS (ev_var rfl) hS) (ev_var rfl) (rv_ne rfl))) (fun h1 H1 e1 => ?_) (fun h1 H1 e1 => ?_)
    · rw [List.length_map] at h1
      have hn : ¬ GoodB xs c := fun g => by
        rw [g.1] at h1
        simp at h1
      refine js_run _ _ H1 _ ⟨⟨_, toStr_len (i := (xs.length : Int)) (by have := hsm.1; omega), fmt_int (i := (xs.length : Int)) (ev_is (ev_lenS (ev_var rfl) (ex_l e1 hS)) (by rw [List.length_map])) (by have := hsm.1; omega)⟩, ⟨_, (by decide), ev_c⟩, ⟨_, toStr_len (by omega), fmt_int (ev_var rfl) (by omega)⟩, trivial⟩ (by show 0 + 2000 * 3 ≤ 100000; decide) (Ex.refl H1) (fun out H2 e2 => hb hn H2 (e1.trans e2))
    have hlen : (xs.length : Int) = c := by
      rw [List.length_map] at h1
      simpa using h1
    refine a_forL1 (G := H) e1 (ev_var rfl) hS (fun i σ' H' => ∃ y, σ' = [some (.ref l), some (.int c), y] ∧ Ex H H' ∧ ∀ k, k < i → xs.getD k 0 = 0 ∨ xs.getD k 0 = 1) (fun H2 e2 => ⟨none, rfl, e2, fun k hk => absurd hk (Nat.not_lt_zero k)⟩) (fun i σ' H' _ ⟨_, _, e2, _⟩ => ex_l e2 hS) ?_ ?_
    · rintro i x σ' H' hx ⟨y, rfl, e2, hk⟩
      have hlt : i < xs.length := by
        have := (List.getElem?_eq_some_iff.mp hx).1
        rw [List.length_map] at this
        exact this
      have ex : x = .int (xs.getD i 0) := by
        rw [List.getElem?_map, List.getElem?_eq_getElem hlt] at hx
        rw [List.getD_eq_getElem?_getD, List.getElem?_eq_getElem hlt]
        exact (Option.some.inj hx).symm
      have hm : xs.getD i 0 ∈ xs := by
        rw [List.getD_eq_getElem?_getD, List.getElem?_eq_getElem hlt]
        exact List.getElem_mem hlt
      subst ex
      refine a_when1 e2 (et_test (ev_is (ev_niU (ev_var rfl) (eu_tup (ea_cons ev_c (ea_cons ev_c ea_nil)) (by decide)) rfl rfl) (by rw [inV_bits]))) (fun h2 H3 e3 => ?_) (fun h2 H3 e3 => ?_)
      · have hn : ¬ GoodB xs c := fun g => by
          exact nd_t h2 (g.2 _ hm)
        exact js_run _ _ H3 _ ⟨⟨_, toStr_len (hsm.2 _ hm), fmtR_int (ev_var rfl) (hsm.2 _ hm)⟩, ⟨_, (by decide), ev_c⟩, trivial⟩ (by show 0 + 2000 * 2 ≤ 100000; decide) (Ex.refl H3) (fun out H4 e4 => hb hn H4 (e3.trans e4))
      · refine ⟨_, rfl, e3, fun k hk2 => ?_⟩
        by_cases q : k < i
        · exact hk k q
        · have : k = i := by omega
          subst this
          exact nd_f h2
    · rintro σ' H' ⟨y, rfl, e2, hk⟩
      refine hg ⟨hlen, fun x hx => ?_⟩ H' e2
      obtain ⟨k, hk2, e⟩ := List.mem_iff_getElem.mp hx
      have := hk k (by rw [List.length_map]; exact hk2)
      rw [List.getD_eq_getElem?_getD, List.getElem?_eq_getElem hk2] at this
      rw [← e]
      exact this

/-! ### bits -/
def Bits (bs : List Int) : Prop := ∀ b ∈ bs, b = 0 ∨ b = 1
def bmin (bs : List Int) : Int := if (0 : Int) ∈ bs then 0 else 1
def bmax (bs : List Int) : Int := if (1 : Int) ∈ bs then 1 else 0
theorem bmin_mem {bs : List Int} (h : Bits bs) (h0 : bs ≠ []) : bmin bs ∈ bs ∧ ∀ y ∈ bs, bmin bs ≤ y := by
  unfold bmin
  by_cases q : (0 : Int) ∈ bs
  · rw [if_pos q]
    refine ⟨q, fun y hy => ?_⟩
    rcases h y hy with e | e <;> omega
  · rw [if_neg q]
    have a : ∀ y ∈ bs, y = 1 := fun y hy => by
      rcases h y hy with e | e
      · rw [e] at hy
        exact absurd hy q
      · exact e
    refine ⟨?_, fun y hy => by rw [a y hy]; omega⟩
    cases bs with
    | nil => exact absurd rfl h0
    | cons x r => rw [← a x List.mem_cons_self]; exact List.mem_cons_self
theorem bmax_mem {bs : List Int} (h : Bits bs) (h0 : bs ≠ []) : bmax bs ∈ bs ∧ ∀ y ∈ bs, y ≤ bmax bs := by
  unfold bmax
  by_cases q : (1 : Int) ∈ bs
  · rw [if_pos q]
    refine ⟨q, fun y hy => ?_⟩
    rcases h y hy with e | e <;> omega
  · rw [if_neg q]
    have a : ∀ y ∈ bs, y = 0 := fun y hy => by
      rcases h y hy with e | e
      · exact e
      · rw [e] at hy
        exact absurd hy q
    refine ⟨?_, fun y hy => by rw [a y hy]; omega⟩
    cases bs with
    | nil => exact absurd rfl h0
    | cons x r => rw [← a x List.mem_cons_self]; exact List.mem_cons_self
theorem bits_sum {bs : List Int} (h : Bits bs) : 0 ≤ bs.sum ∧ bs.sum ≤ bs.length ∧ ((1 : Int) ∈ bs ↔ bs.sum ≠ 0) ∧ ((0 : Int) ∈ bs ↔ bs.sum < bs.length) := by
  induction bs with
  | nil => simp
  | cons b r ih =>
    obtain ⟨i1, i2, i3, i4⟩ := ih fun x hx => h x (List.mem_cons_of_mem _ hx)
    rw [List.sum_cons, List.length_cons, List.mem_cons, List.mem_cons, i3, i4]
    rcases h b List.mem_cons_self with e | e <;> subst e <;> refine ⟨by omega, by omega, ?_, ?_⟩ <;> omega
theorem bmin_sum {bs : List Int} (h : Bits bs) : bmin bs = if bs.sum = (bs.length : Int) then 1 else 0 := by
  obtain ⟨a, b, c, d⟩ := bits_sum h
  unfold bmin
  by_cases q : (0 : Int) ∈ bs
  · rw [if_pos q, if_neg (by have := d.mp q; omega)]
  · rw [if_neg q, if_pos (by have : ¬ bs.sum < bs.length := fun z => q (d.mpr z); omega)]
theorem bmax_sum {bs : List Int} (h : Bits bs) : bmax bs = if 0 < bs.sum then 1 else 0 := by
  obtain ⟨a, b, c, d⟩ := bits_sum h
  unfold bmax
  by_cases q : (1 : Int) ∈ bs
  · rw [if_pos q, if_pos (by have := c.mp q; omega)]
  · rw [if_neg q, if_neg (fun z => q (c.mpr (by omega)))]
theorem dec_str {a b : Str} : decide (V.str a = V.str b) = decide (a = b) := by
  by_cases h : a = b
  · rw [h]; simp
  · rw [decide_eq_false h]
    exact decide_eq_false fun q => h (V.str.inj q)
theorem decI {i j : Int} (h : i = j) : decide (V.int i = V.int j) = true := by rw [h]; simp
theorem dec_int {a b : Int} : decide (V.int a = V.int b) = decide (a = b) := by
  by_cases h : a = b
  · rw [h]; simp
  · rw [decide_eq_false h]
    exact decide_eq_false fun q => h (V.int.inj q)
theorem dec_bl {a b : Bool} : decide (V.bl a = V.bl b) = decide (a = b) := by cases a <;> cases b <;> simp
theorem ite_dec {p : Prop} [Decidable p] : (if decide p then (1 : Int) else 0) = if p then 1 else 0 := by
  by_cases h : p <;> simp [h]
theorem bits_at {bs : List Int} (h : Bits bs) {k : Nat} (hk : k < bs.length) : bs.getD k 0 = 0 ∨ bs.getD k 0 = 1 := by
  refine h _ ?_
  rw [List.getD_eq_getElem?_getD, List.getElem?_eq_getElem hk]
  exact List.getElem_mem hk

/-! ### _law_bits: some bits -/
def sp_law_bits (K : PySem.W.Frag) : Sp := fun vs H Q _ => ∃ (n c : Int), vs = [.int n, .int c] ∧ 0 ≤ c ∧ c ≤ 1000 ∧ ∀ bs, Bits bs → bs.length = c.toNat → RetL (bs.map V.int) H Q
theorem ok_law_bits (T : Top K mg w a) : FnOk P w K mg base CX0 1 a.f_law_bits a.d_law_bits ["number", "count"] (sp_law_bits K) := by
  refine T.F_law_bits.ok sc_law_bits (fun vs H Q E h => ?_) (fun cdv A outer s H vs Q E hr h => ?_)
  · obtain ⟨n, c, rfl, _⟩ := h
    rfl
  · obtain ⟨n, c, rfl, hc0, hc1, q⟩ := h
    refine ⟨_, (pss_cons (ps_set (i := 2) sc_law_bits.nd rfl (Or.inl rfl) (pe_lst pa_nil))
      (pss_cons (ps_for PassesOwn.never rfl (pi_range1 rfl T.z_range (pa_cons (pv 1) pa_nil)) (pg_name (i := 3) sc_law_bits.nd rfl (Or.inl rfl))
      (pss_cons (ps_expr (pe_bm PySem.F.plainAttrs_list PySem.F.slot_list_append PySem.F.type_list_append mt_append (pv 2) (pa_cons (pe_op op_mod (pe_callTy call_int1 (by rfl) T.z_int (by decide +kernel) (pa_cons (pv 0) pa_nil)) pe_int) pa_nil)))
      (pss_one (ps_set (i := 0) sc_law_bits.nd rfl (Or.inl rfl) (pe_op op_fdivW (pv 0) pe_int)))))
      (pss_one (ps_ret (pv 2))))), ?_⟩
    refine a_setL (Ex.refl H) (el_lst ea_nil (by decide)) (fun p H5 hp e5 => ?_)
    refine a_forR (n := c) e5 (ea_cons (ev_var rfl) ea_nil) ⟨hc0, by omega⟩
      (fun i σ' H' => ∃ (m : Int) (y : Option V) (bs : List Int), σ' = [some (.int m), some (.int c), some (.ref p), y] ∧ bs.length = i ∧ Bits bs ∧ Ex (upd H p (.lst (bs.map V.int))) H')
      (fun H6 e6 => ⟨n, none, [], rfl, rfl, fun b hb => absurd hb List.not_mem_nil, e6⟩) ?_ ?_
    · rintro i σ' H' hi ⟨m, y, bs, rfl, hl, hB, e6⟩
      refine a_app (v := .int (m % 2)) e6 (ev_var rfl) upd_same (ev_op (ev_int1 (ev_var rfl)) ev_c (rv_I (by decide))) (by rw [List.length_map, hl]; omega) (fun H7 e7 => ?_)
      rw [upd_upd] at e7
      refine a_set1 e7 (ev_op (ev_var rfl) ev_c (rv_I (wide_div (b := 64) (by decide) (by decide) (by decide) (by decide)))) (fun H8 e8 => ?_)
      refine ⟨m / 2, _, bs ++ [m % 2], rfl, by rw [List.length_append, hl]; rfl, fun b hb => ?_, ?_⟩
      · rcases List.mem_append.mp hb with hb | hb
        · exact hB b hb
        · have := List.mem_singleton.mp hb
          omega
      · rw [List.map_append]
        exact e8
    · rintro σ' H' ⟨m, y, bs, rfl, hl, hB, e6⟩
      refine a_ret e6 (ev_var rfl) (fun H7 e7 => ?_)
      exact q bs hB hl p H7 hp ((Ex.new hp).trans e7) (e7 p _ upd_same)

def sp_law_is_bits (K : PySem.W.Frag) : Sp := fun vs H Q _ => ∃ (l : Addr) (xs : List Int) (c : Int), vs = [.ref l, .int c] ∧ H l = some (.lst (xs.map V.int)) ∧ (xs.length : Int) = c ∧ Bits xs ∧ RetV (.bl true) H Q
theorem ok_law_is_bits (T : Top K mg w a) : FnOk P w K mg base CX0 2 a.f_law_is_bits a.d_law_is_bits ["actual", "count"] (sp_law_is_bits K) := by
  refine T.F_law_is_bits.ok sc_law_is_bits (fun vs H Q E h => ?_) (fun cdv A outer s H vs Q E hr h => ?_)
  · obtain ⟨l, xs, c, rfl, _⟩ := h
    rfl
  · obtain ⟨l, xs, c, rfl, hS, hl, hB, q⟩ := h
    refine ⟨_, (pss_cons (ps_if (PW.pt (pw_or (pt_not (pt_val (pe_callB call_isi (by rfl) T.z_isinstance (by decide +kernel) (pa_cons (pv 0) (pa_cons (pe_bltn (v := .ty "list") (by rfl) T.z_list (by decide +kernel) rfl) pa_nil))))) (pw_or1 (pt_cmpR op_ne (pe_callB call_len_seq (by rfl) T.z_len (by decide +kernel) (pa_cons (pv 0) pa_nil)) (pv 1) (nomark _)))))
      (pss_one (ps_ret pe_bl))
      pss_nil)
      (pss_cons (ps_for PassesOwn.never rfl (pi_list (pv 0)) (pg_name (i := 2) sc_law_is_bits.nd rfl (Or.inl rfl))
      (pss_one (ps_if (PW.pt (pw_or (pt_not (pt_val (pe_call (ok_law_is_integer T) (hr.mono (by decide)) (by rfl) T.g_law_is_integer T.F_law_is_integer.kp T.b_law_is_integer .nil pass0 (pa_cons (pv 2) pa_nil)))) (pw_or (pt_cmpR op_lt (pv 2) pe_int (nomark _)) (pw_or1 (pt_cmpR op_gt (pv 2) pe_int (nomark _))))))
      (pss_one (ps_ret pe_bl))
      pss_nil)))
      (pss_one (ps_ret pe_bl)))), ?_⟩
    refine a_when (Ex.refl H) (b := false) (et_is (et_or (et_not (et_B (ev_isiLst (ev_var rfl) hS))) fun _ => et_test (ev_op (ev_lenS (ev_var rfl) (sq_of hS)) (ev_var rfl) (rv_ne rfl))) (by rw [List.length_map, hl]; simp)) (fun hb => nomatch hb) (fun _ H1 e1 => ?_)
    refine a_forL e1 (ev_var rfl) (sq_of hS) (fun i σ' H' => ∃ y, σ' = [some (.ref l), some (.int c), y] ∧ Ex H H') (fun H2 e2 => ⟨none, rfl, e2⟩) (fun i σ' H' _ ⟨_, _, e2⟩ => ex_l e2 (sq_of hS)) ?_ ?_
    · rintro i x σ' H' hx ⟨y, rfl, e2⟩
      obtain ⟨n, hn, rfl⟩ := List.mem_map.mp (List.mem_of_getElem? hx)
      refine a_when1 e2 (b := false) (et_is (et_or (et_not (et_B (ev_call1 (z := .bl true) (ea_cons (ev_var rfl) ea_nil) fun H1 _ Q q E => ⟨n, rfl, q⟩))) fun _ => et_or (et_test (ev_op (ev_var rfl) ev_c rv_I0)) fun _ => et_test (ev_op (ev_var rfl) ev_c rv_I0)) (by rcases hB n hn with rfl | rfl <;> rfl)) (fun hb => nomatch hb) (fun _ H3 e3 => ⟨_, rfl, e3⟩)
    · rintro σ' H' ⟨y, rfl, e2⟩
      exact a_ret e2 ev_c q

/-! ### _law_wrong: a list that is not one of bits, or of another length -/
def sp_law_wrong (K : PySem.W.Frag) : Sp := fun vs H Q _ => ∃ (l : Addr) (bs : List Int) (c : Int), vs = [.ref l, .int c] ∧ SqL K H l (bs.map V.int) ∧ bs.length ≤ 900 ∧ Bits bs ∧ 0 ≤ c ∧ c ≤ 1000000 ∧ ∀ ws, ¬ GoodB ws (bs.length : Int) → Small ws → RetL (ws.map V.int) H Q
theorem cutV_to' {xs : List V} {i : Int} (h : 0 ≤ i) : cutV xs none (some i) = xs.take i.toNat := by
  have e : i = (i.toNat : Int) := by omega
  rw [e, cutV_to]
  rfl
theorem cutV_from' {xs : List V} {i : Int} (h : 0 ≤ i) : cutV xs (some i) none = xs.drop i.toNat := by
  have e : i = (i.toNat : Int) := by omega
  rw [e, cutV_from]
  rfl
theorem bits_small {bs : List Int} (h : Bits bs) (hl : bs.length ≤ 1000) : Small bs := ⟨hl, fun x hx => by rcases h x hx with rfl | rfl <;> decide⟩
theorem small_app {xs ys : List Int} (h1 : Small xs) (h2 : Small ys) (h : xs.length + ys.length ≤ 1000) : Small (xs ++ ys) := ⟨by rw [List.length_append]; exact h, fun x hx => by
  rcases List.mem_append.mp hx with h | h
  · exact h1.2 x h
  · exact h2.2 x h⟩
theorem small_take {xs : List Int} (h : Small xs) (n : Nat) : Small (xs.take n) := ⟨by rw [List.length_take]; have := h.1; omega, fun x hx => h.2 x (List.mem_of_mem_take hx)⟩
theorem small_drop {xs : List Int} (h : Small xs) (n : Nat) : Small (xs.drop n) := ⟨by rw [List.length_drop]; have := h.1; omega, fun x hx => h.2 x (List.mem_of_mem_drop hx)⟩
theorem small_one {x : Int} (h : x.natAbs < 10000000000) : Small [x] := ⟨by show 1 ≤ 1000; decide, fun y hy => by rw [List.mem_singleton.mp hy]; exact h⟩
theorem ok_law_wrong (T : Top K mg w a) : FnOk P w K mg base CX0 1 a.f_law_wrong a.d_law_wrong ["bits", "choice"] (sp_law_wrong K) := by
  refine T.F_law_wrong.ok sc_law_wrong (fun vs H Q E h => ?_) (fun cdv A outer s H vs Q E hr h => ?_)
  · obtain ⟨l, bs, c, rfl, _⟩ := h
    rfl
  · obtain ⟨l, bs, c, rfl, hS, hl, hB, hc0, hc1, q⟩ := h
    refine ⟨_, (pss_cons (ps_set (i := 2) sc_law_wrong.nd rfl (Or.inl rfl) (pe_ix ix_list (pe_lst (pa_cons pe_int (pa_cons (pe_un un_neg pe_int) (pa_cons pe_int (pa_cons (pe_op op_add pe_int (pv 1)) pa_nil))))) (pe_op op_mod (pe_op op_fdivW (pe_callTy call_int1 (by rfl) T.z_int (by decide +kernel) (pa_cons (pv 1) pa_nil)) pe_int) pe_int) (fun _ _ => rfl)))
      (pss_cons (ps_set (i := 3) sc_law_wrong.nd rfl (Or.inl rfl) (pe_op op_mod (pe_op op_fdivW (pe_callTy call_int1 (by rfl) T.z_int (by decide +kernel) (pa_cons (pv 1) pa_nil)) pe_int) (pe_op op_add (pe_callB call_len_seq (by rfl) T.z_len (by decide +kernel) (pa_cons (pv 0) pa_nil)) pe_int)))
      (pss_cons (ps_if (pt_cmpR op_eq (pe_op op_mod (pe_callTy call_int1 (by rfl) T.z_int (by decide +kernel) (pa_cons (pv 1) pa_nil)) pe_int) pe_int (nomark _))
      (pss_one (ps_ret (pe_op (op_catL) (pe_op (op_catL) (pe_slice sl_list (pv 0) po_none (po_some (pv 3))) (pe_lst (pa_cons pe_int pa_nil))) (pe_slice sl_list (pv 0) (po_some (pv 3)) po_none))))
      pss_nil)
      (pss_cons (ps_if (pt_cmpR op_eq (pe_callB call_len_seq (by rfl) T.z_len (by decide +kernel) (pa_cons (pv 0) pa_nil)) pe_int (nomark _))
      (pss_one (ps_ret (pe_lst (pa_cons (pv 2) pa_nil))))
      pss_nil)
      (pss_cons (ps_set (i := 3) sc_law_wrong.nd rfl (Or.inl rfl) (pe_op op_mod (pe_callTy call_int1 (by rfl) T.z_int (by decide +kernel) (pa_cons (pv 3) pa_nil)) (pe_callB call_len_seq (by rfl) T.z_len (by decide +kernel) (pa_cons (pv 0) pa_nil))))
      (pss_cons (ps_if (pt_cmpR op_eq (pe_op op_mod (pe_callTy call_int1 (by rfl) T.z_int (by decide +kernel) (pa_cons (pv 1) pa_nil)) pe_int) pe_int (nomark _))
      (pss_one (ps_ret (pe_op (op_catL) (pe_slice sl_list (pv 0) po_none (po_some (pv 3))) (pe_slice sl_list (pv 0) (po_some (pe_op op_add (pv 3) pe_int)) po_none))))
      pss_nil)
      (pss_one (ps_ret (pe_op (op_catL) (pe_op (op_catL) (pe_slice sl_list (pv 0) po_none (po_some (pv 3))) (pe_lst (pa_cons (pv 2) pa_nil))) (pe_slice sl_list (pv 0) (po_some (pe_op op_add (pv 3) pe_int)) po_none)))))))))), ?_⟩
    have m4 : 0 ≤ c / 3 % 4 ∧ c / 3 % 4 < 4 := ⟨Int.emod_nonneg _ (by decide), Int.emod_lt_of_pos _ (by decide)⟩
    have smB := bits_small hB (by omega)
    -- item
    obtain ⟨it, hit, hit0, hits⟩ : ∃ it : Int, atI [V.int 2, V.int (-1), V.int 3, V.int (11 + c)] (c / 3 % 4) = some (.int it) ∧ ¬ (it = 0 ∨ it = 1) ∧ it.natAbs < 10000000000 := by
      rcases (show c / 3 % 4 = 0 ∨ c / 3 % 4 = 1 ∨ c / 3 % 4 = 2 ∨ c / 3 % 4 = 3 by omega) with e | e | e | e <;> rw [e]
      · exact ⟨2, rfl, by decide, by decide⟩
      · exact ⟨-1, rfl, by decide, by decide⟩
      · exact ⟨3, rfl, by decide, by decide⟩
      · exact ⟨11 + c, rfl, by omega, by omega⟩
    refine a_set (Ex.refl H) (v := .int it) (ev_opL1 (el_lst (ea_cons ev_c (ea_cons (ev_un ev_c ru_neg) (ea_cons ev_c (ea_cons (ev_op ev_c (ev_var rfl) rv_I0) ea_nil)))) (Nat.le_of_ble_eq_true rfl)) (fun H1 _ => ev_op (ev_op (ev_int1 (ev_var rfl)) ev_c (rv_I (wide_div (b := 64) (by decide) (by decide) (by decide) (by decide)))) ev_c (rv_I (by decide))) (fun p H1 hp _ => rv_ixL (sq_of hp) hit)) (fun H1 e1 => ?_)
    generalize hat : c / 12 % ((bs.length : Int) + 1) = at1
    have hat0 : 0 ≤ at1 ∧ at1 ≤ (bs.length : Int) := by
      have h1 := Int.emod_nonneg (c / 12) (b := (bs.length : Int) + 1) (by omega)
      have h2 := Int.emod_lt_of_pos (c / 12) (b := (bs.length : Int) + 1) (by omega)
      omega
    refine a_set e1 (v := .int at1) (ev_is (ev_op (ev_op (ev_int1 (ev_var rfl)) ev_c (rv_I (wide_div (b := 64) (by decide) (by decide) (by decide) (by decide)))) (ev_op (ev_lenS (ev_var rfl) hS) ev_c rv_I0) (rv_I (by rw [List.length_map]; omega))) (by rw [List.length_map, hat])) (fun H2 e2 => ?_)
    have sl : ∀ {σ : L2.St} {ta tb : TE} {i : Int}, 0 ≤ i → Ev ta σ H (.ref l) → Ev tb σ H (.int i) → EvL (tSl (rSlL K) ta tNoPart (tPart tb)) σ H ((bs.take i.toNat).map V.int) := fun h0 h1 h2 => by
      rw [List.map_take, ← cutV_to' h0]
      exact el_sl h1 eo_none (eo_some h2) hS
    have sr : ∀ {σ : L2.St} {ta tb : TE} {i : Int}, 0 ≤ i → Ev ta σ H (.ref l) → Ev tb σ H (.int i) → EvL (tSl (rSlL K) ta (tPart tb) tNoPart) σ H ((bs.drop i.toNat).map V.int) := fun h0 h1 h2 => by
      rw [List.map_drop, ← cutV_from' h0]
      exact el_sl h1 (eo_some h2) eo_none hS
    have lt : ∀ n, (bs.take n).length ≤ 900 := fun n => by rw [List.length_take]; omega
    have ld : ∀ n, (bs.drop n).length ≤ 900 := fun n => by rw [List.length_drop]; omega
    have ltd : ∀ n, (bs.take n).length + (bs.drop n).length = bs.length := fun n => by rw [← List.length_append, List.take_append_drop]
    refine a_when e2 (et_test (ev_op (ev_op (ev_int1 (ev_var rfl)) ev_c (rv_I (by decide))) ev_c (rv_eq rfl))) (fun hb H3 e3 => ?_) (fun hb H3 e3 => ?_)
    · have hw := ltd at1.toNat
      have := q (bs.take at1.toNat ++ [1] ++ bs.drop at1.toNat) (fun g => by
        have g1 := g.1
        rw [List.length_append, List.length_append, List.length_singleton] at g1
        omega) (small_app (small_app (small_take smB _) (small_one (by decide)) (by have := lt at1.toNat; rw [List.length_singleton]; omega)) (small_drop smB _) (by rw [List.length_append, List.length_singleton]; omega))
      rw [List.map_append, List.map_append] at this
      refine a_retL e3 (el_catNN (el_catNN (sl hat0.1 (ev_var rfl) (ev_var rfl)) (fun H1 _ => el_lst (ea_cons ev_c ea_nil) (by decide)) ?_) (fun H1 e1 => (sr hat0.1 (ev_var rfl) (ev_var rfl)).mono e1) ?_) this
      · have := lt at1.toNat; rw [List.length_map, List.length_singleton]; omega
      · have := lt at1.toNat; have := ld at1.toNat
        rw [List.length_append, List.length_map, List.length_map, List.length_singleton]; omega
    refine a_when e3 (et_test (ev_op (ev_lenS (ev_var rfl) hS) ev_c (rv_eq rfl))) (fun hb2 H4 e4 => ?_) (fun hb2 H4 e4 => ?_)
    · rw [List.length_map, dec_int] at hb2
      have hz := of_decide_eq_true hb2
      have := q [it] (fun g => by
        have g1 := g.1
        rw [List.length_singleton] at g1
        omega) (small_one hits)
      exact a_retL e4 (el_lst (ea_cons (ev_var rfl) ea_nil) (Nat.le_of_ble_eq_true rfl)) this
    rw [List.length_map, dec_int] at hb2
    have hz := of_decide_eq_false hb2
    generalize hat2 : at1 % (bs.length : Int) = at2
    have hat3 : 0 ≤ at2 ∧ at2 < (bs.length : Int) := by
      have h1 := Int.emod_nonneg at1 (b := (bs.length : Int)) (by omega)
      have h2 := Int.emod_lt_of_pos at1 (b := (bs.length : Int)) (by omega)
      omega
    refine a_set e4 (v := .int at2) (ev_is (ev_op (ev_int1 (ev_var rfl)) (ev_lenS (ev_var rfl) hS) (rv_I (by rw [List.length_map]; omega))) (by rw [List.length_map, hat2])) (fun H5 e5 => ?_)
    have hd1 : (bs.take at2.toNat).length + (bs.drop (at2 + 1).toNat).length + 1 = bs.length := by
      rw [List.length_take, List.length_drop]
      omega
    refine a_when e5 (et_test (ev_op (ev_op (ev_int1 (ev_var rfl)) ev_c (rv_I (by decide))) ev_c (rv_eq rfl))) (fun hb3 H6 e6 => ?_) (fun hb3 H6 e6 => ?_)
    · have := q (bs.take at2.toNat ++ bs.drop (at2 + 1).toNat) (fun g => by
        have g1 := g.1
        rw [List.length_append] at g1
        omega) (small_app (small_take smB _) (small_drop smB _) (by omega))
      rw [List.map_append] at this
      refine a_retL e6 (el_catNN (sl hat3.1 (ev_var rfl) (ev_var rfl)) (fun H1 e1 => (sr (by omega) (ev_var rfl) (ev_op (ev_var rfl) ev_c rv_I0)).mono e1) ?_) this
      rw [List.length_map, List.length_map]; omega
    · have := q (bs.take at2.toNat ++ [it] ++ bs.drop (at2 + 1).toNat) (fun g => hit0 (g.2 it (List.mem_append_left _ (List.mem_append_right _ (List.mem_singleton.mpr rfl))))) (small_app (small_app (small_take smB _) (small_one hits) (by have := lt at2.toNat; rw [List.length_singleton]; omega)) (small_drop smB _) (by rw [List.length_append, List.length_singleton]; omega))
      rw [List.map_append, List.map_append] at this
      refine a_retL e6 (el_catNN (el_catNN (sl hat3.1 (ev_var rfl) (ev_var rfl)) (fun H1 _ => el_lst (ea_cons (ev_var rfl) ea_nil) (Nat.le_of_ble_eq_true rfl)) ?_) (fun H1 e1 => (sr (by omega) (ev_var rfl) (ev_op (ev_var rfl) ev_c rv_I0)).mono e1) ?_) this
      · have := lt at2.toNat; rw [List.length_map, List.length_singleton]; omega
      · rw [List.length_append, List.length_map, List.length_map, List.length_singleton]; omega

/-! ### the kinds of cells -/
def kinds8 : List (Str × Int) := [("not", 1), ("nand2", 2), ("nand3", 3), ("nor2", 2), ("nor3", 3), ("latch", 1), ("tie0", 0), ("tie1", 0)]
theorem kinds_cases {k : Str} {n : Int} (h : (k, n) ∈ kinds8) : (k = "not" ∧ n = 1) ∨ (k = "nand2" ∧ n = 2) ∨ (k = "nand3" ∧ n = 3) ∨ (k = "nor2" ∧ n = 2) ∨ (k = "nor3" ∧ n = 3) ∨ (k = "latch" ∧ n = 1) ∨ (k = "tie0" ∧ n = 0) ∨ (k = "tie1" ∧ n = 0) := by
  simpa [kinds8] using h
def cellV (k : Str) (bs : List Int) : Int := if k = "tie0" then 0 else if k = "tie1" then 1 else if k = "nor2" ∨ k = "nor3" then 1 - bmax bs else 1 - bmin bs
theorem cell_nor {bs : List Int} (h : Bits bs) : 1 - bmax bs = if bs.sum = 0 then 1 else 0 := by
  obtain ⟨a, b, c, d⟩ := bits_sum h
  unfold bmax
  by_cases q : (1 : Int) ∈ bs
  · rw [if_pos q, if_neg (c.mp q)]; rfl
  · rw [if_neg q, if_pos (by by_cases z : bs.sum = 0 <;> simp_all)]; rfl
theorem cell_nand {bs : List Int} (h : Bits bs) : 1 - bmin bs = if bs.sum < (bs.length : Int) then 1 else 0 := by
  obtain ⟨a, b, c, d⟩ := bits_sum h
  unfold bmin
  by_cases q : (0 : Int) ∈ bs
  · rw [if_pos q, if_pos (d.mp q)]; rfl
  · rw [if_neg q, if_neg (fun z => q (d.mpr z))]; rfl
def sp_cell_value (K : PySem.W.Frag) : Sp := fun vs H Q _ => ∃ (k : Str) (l : Addr) (bs : List Int), vs = [.str k, .ref l] ∧ SqL K H l (bs.map V.int) ∧ Bits bs ∧ (k ≠ "tie0" → k ≠ "tie1" → bs ≠ []) ∧ RetV (.int (cellV k bs)) H Q
theorem ok_cell_value (T : Top K mg w a) : FnOk P w K mg base CX0 1 a.f_cell_value a.d_cell_value ["kind", "values"] (sp_cell_value K) := by
  refine T.F_cell_value.ok sc_cell_value (fun vs H Q E h => ?_) (fun cdv A outer s H vs Q E hr h => ?_)
  · obtain ⟨k, l, bs, rfl, _⟩ := h
    rfl
  · obtain ⟨k, l, bs, rfl, hS, hB, hn, q⟩ := h
    refine ⟨_, (pss_cons (ps_if (pt_cmpR op_eq (pv 0) pe_str (nomark _))
      (pss_one (ps_ret pe_int))
      pss_nil)
      (pss_cons (ps_if (pt_cmpR op_eq (pv 0) pe_str (nomark _))
      (pss_one (ps_ret pe_int))
      pss_nil)
      (pss_cons (ps_if (pt_cmpR op_in_seq (pv 0) (pe_tup (pa_cons pe_str (pa_cons pe_str pa_nil))) (by rfl))
      (pss_one (ps_ret (pe_op op_sub pe_int (pe_callB (cr_max rfl) (by rfl) T.z_max (by decide +kernel) (pa_cons (pv 1) pa_nil)))))
      pss_nil)
      (pss_one (ps_ret (pe_op op_sub pe_int (pe_callB (cr_min rfl) (by rfl) T.z_min (by decide +kernel) (pa_cons (pv 1) pa_nil)))))))), ?_⟩
    unfold cellV at q
    refine a_when (Ex.refl H) (et_test (ev_op (ev_var rfl) ev_c (rv_eq rfl))) (fun hb H1 e1 => ?_) (fun hb H1 e1 => ?_)
    · rw [dec_str] at hb
      rw [if_pos (of_decide_eq_true hb)] at q
      exact a_ret e1 ev_c q
    rw [dec_str] at hb
    have n0 := of_decide_eq_false hb
    rw [if_neg n0] at q
    refine a_when e1 (et_test (ev_op (ev_var rfl) ev_c (rv_eq rfl))) (fun hb H2 e2 => ?_) (fun hb H2 e2 => ?_)
    · rw [dec_str] at hb
      rw [if_pos (of_decide_eq_true hb)] at q
      exact a_ret e2 ev_c q
    rw [dec_str] at hb
    have n1 := of_decide_eq_false hb
    rw [if_neg n1] at q
    have hne := hn n0 n1
    have ein : inV (.str k) [.str "nor2", .str "nor3"] = decide (k = "nor2" ∨ k = "nor3") := by
      show ((("nor2" : Str) == k) || ((("nor3" : Str) == k) || false)) = _
      by_cases h2 : k = "nor2"
      · subst h2; simp
      · by_cases h3 : k = "nor3"
        · subst h3; simp
        · have a2 : (("nor2" : Str) == k) = false := by simpa using fun z => h2 z.symm
          have a3 : (("nor3" : Str) == k) = false := by simpa using fun z => h3 z.symm
          rw [a2, a3]; simp [h2, h3]
    refine a_when e2 (et_test (ev_is (ev_inU (ev_var rfl) (eu_tup (ea_cons ev_c (ea_cons ev_c ea_nil)) (by decide)) rfl rfl) (congrArg V.bl ein))) (fun hb H3 e3 => ?_) (fun hb H3 e3 => ?_)
    · rw [if_pos (of_decide_eq_true hb)] at q
      exact a_ret e3 (ev_op ev_c (ev_max (ev_var rfl) hS (bmax_mem hB hne).1 (bmax_mem hB hne).2) rv_I0) q
    · rw [if_neg (of_decide_eq_false hb)] at q
      exact a_ret e3 (ev_op ev_c (ev_min (ev_var rfl) hS (bmin_mem hB hne).1 (bmin_mem hB hne).2) rv_I0) q

/-! ### circuits -/
structure CellD where
  kind : Str
  ins : List Int
  out : Int
structure CircD where
  n : Int
  cells : List CellD
  outs : List Int
  lats : List Int
def CellAt (K : PySem.W.Frag) (G : Hp) (v : V) (c : CellD) : Prop := ∃ p q, v = .ref p ∧ SqT K G p [.str c.kind, .ref q, .int c.out] ∧ SqT K G q (c.ins.map V.int)
def AllAt {α : Type} (R : V → α → Prop) (vs : List V) (cs : List α) : Prop := vs.length = cs.length ∧ ∀ (i : Nat) v c, vs[i]? = some v → cs[i]? = some c → R v c
def CircAt (K : PySem.W.Frag) (G : Hp) (p : Addr) (C : CircD) : Prop := ∃ (pc po pl : Addr) (vs : List V), SqT K G p [.int C.n, .ref pc, .ref po, .ref pl] ∧ SqT K G pc vs ∧ AllAt (CellAt K G) vs C.cells ∧ SqT K G po (C.outs.map V.int) ∧ SqT K G pl (C.lats.map V.int)
theorem cell_mono {K : PySem.W.Frag} {G H : Hp} (e : Ex G H) {v : V} {c : CellD} (h : CellAt K G v c) : CellAt K H v c := by
  obtain ⟨p, q, h1, h2, h3⟩ := h
  exact ⟨p, q, h1, ex_t e h2, ex_t e h3⟩
theorem circ_mono {K : PySem.W.Frag} {G H : Hp} (e : Ex G H) {p : Addr} {C : CircD} (h : CircAt K G p C) : CircAt K H p C := by
  obtain ⟨pc, po, pl, vs, h1, h2, h3, h4, h5⟩ := h
  exact ⟨pc, po, pl, vs, ex_t e h1, ex_t e h2, ⟨h3.1, fun i v c a b => cell_mono e (h3.2 i v c a b)⟩, ex_t e h4, ex_t e h5⟩
inductive KC : Str → Nat → Prop
  | not : KC "not" 1
  | nand2 : KC "nand2" 2
  | nand3 : KC "nand3" 3
  | nor2 : KC "nor2" 2
  | nor3 : KC "nor3" 3
  | latch : KC "latch" 1
  | tie0 : KC "tie0" 0
  | tie1 : KC "tie1" 0
def numLat (cs : List CellD) : Nat := (cs.filter fun c : CellD => decide (c.kind = ("latch" : Str))).length
structure WFC (C : CircD) : Prop where
  n0 : 0 ≤ C.n
  n6 : C.n ≤ 6
  len : C.cells.length ≤ 40
  kind : ∀ (i : Nat) c, C.cells[i]? = some c → KC c.kind c.ins.length ∧ c.out = C.n + (i : Int) ∧ (∀ x ∈ c.ins, 0 ≤ x ∧ x < C.n + (C.cells.length : Int)) ∧ (c.kind ≠ "latch" → ∀ x ∈ c.ins, x < C.n + (i : Int))
  outs : ∀ x ∈ C.outs, 0 ≤ x ∧ x < C.n + (C.cells.length : Int)
  outl : C.outs.length ≤ 10
  lat : C.lats.length = numLat C.cells
  lat4 : C.lats.length ≤ 4
/-! ### the values -/
def stepV (sts : List Int) (acc : List Int × Nat) (c : CellD) : List Int × Nat :=
  if c.kind = "latch" then (acc.1 ++ [sts.getD acc.2 0], acc.2 + 1) else (acc.1 ++ [cellV c.kind (c.ins.map fun i => acc.1.getD i.toNat 0)], acc.2)
def runV (sts : List Int) (ins : List Int) (cs : List CellD) : List Int × Nat := cs.foldl (stepV sts) (ins, 0)
def valsOf (C : CircD) (ins sts : List Int) : List Int := (runV sts ins C.cells).1
theorem run_more {sts ins : List Int} {cs : List CellD} {i : Nat} {c : CellD} (h : cs[i]? = some c) : runV sts ins (cs.take (i + 1)) = stepV sts (runV sts ins (cs.take i)) c := by
  unfold runV
  rw [List.take_add_one, h, List.foldl_append]
  rfl
theorem run_len {sts ins : List Int} : ∀ cs : List CellD, (runV sts ins cs).1.length = ins.length + cs.length ∧ (runV sts ins cs).2 = numLat cs := by
  intro cs
  have g : ∀ (cs : List CellD) (acc : List Int × Nat), (cs.foldl (stepV sts) acc).1.length = acc.1.length + cs.length ∧ (cs.foldl (stepV sts) acc).2 = acc.2 + numLat cs := by
    intro cs
    induction cs with
    | nil => intro acc; exact ⟨(Nat.add_zero _).symm, (Nat.add_zero _).symm⟩
    | cons c r ih =>
      intro acc
      rw [List.foldl_cons]
      obtain ⟨h1, h2⟩ := ih (stepV sts acc c)
      rw [h1, h2]
      have en : numLat (c :: r) = (if c.kind = "latch" then 1 else 0) + numLat r := by
        unfold numLat
        rw [List.filter_cons]
        by_cases hk : c.kind = "latch"
        · rw [if_pos (decide_eq_true hk), if_pos hk, List.length_cons]
          omega
        · rw [if_neg (by rw [decide_eq_false hk]; exact Bool.false_ne_true), if_neg hk]
          omega
      rw [en, List.length_cons]
      unfold stepV
      by_cases hk : c.kind = "latch"
      · rw [if_pos hk, if_pos hk, List.length_append, List.length_singleton]
        omega
      · rw [if_neg hk, if_neg hk, List.length_append, List.length_singleton]
        omega
  have := g cs (ins, 0)
  exact ⟨this.1, this.2.trans (Nat.zero_add _)⟩
theorem kc_pos {k : Str} {n : Nat} (h : KC k n) : k ≠ "tie0" → k ≠ "tie1" → 0 < n := by
  cases h <;> intro a b <;> first | omega | exact absurd rfl a | exact absurd rfl b
theorem kc_le {k : Str} {n : Nat} (h : KC k n) : n ≤ 3 := by
  cases h <;> decide
theorem kc_latch {k : Str} {n : Nat} (h : KC k n) (e : k = "latch") : n = 1 := by
  cases h <;> first | rfl | (exfalso; revert e; decide +kernel)
theorem cellV_bit {k : Str} {bs : List Int} : cellV k bs = 0 ∨ cellV k bs = 1 := by
  have b1 : bmin bs = 0 ∨ bmin bs = 1 := by unfold bmin; split <;> simp
  have b2 : bmax bs = 0 ∨ bmax bs = 1 := by unfold bmax; split <;> simp
  unfold cellV
  split
  · exact .inl rfl
  split
  · exact .inr rfl
  split <;> omega
theorem bits_append {xs : List Int} {x : Int} (h : Bits xs) (hx : x = 0 ∨ x = 1) : Bits (xs ++ [x]) := fun b hb => by
  rcases List.mem_append.mp hb with hb | hb
  · exact h b hb
  · rw [List.mem_singleton.mp hb]
    exact hx
theorem bits_getD {xs : List Int} (h : Bits xs) (i : Nat) : xs.getD i 0 = 0 ∨ xs.getD i 0 = 1 := by
  by_cases hi : i < xs.length
  · exact bits_at h hi
  · rw [List.getD_eq_getElem?_getD, List.getElem?_eq_none (by omega)]
    exact .inl rfl
theorem run_bits {sts ins : List Int} (h1 : Bits ins) (h2 : Bits sts) : ∀ cs : List CellD, Bits (runV sts ins cs).1 := by
  have g : ∀ (cs : List CellD) (acc : List Int × Nat), Bits acc.1 → Bits (cs.foldl (stepV sts) acc).1 := by
    intro cs
    induction cs with
    | nil => intro acc h; exact h
    | cons c r ih =>
      intro acc h
      rw [List.foldl_cons]
      refine ih _ ?_
      unfold stepV
      split
      · exact bits_append h (bits_getD h2 _)
      · exact bits_append h cellV_bit
  exact fun cs => g cs (ins, 0) h1
theorem numLat_take {cs : List CellD} {i : Nat} {c : CellD} (h : cs[i]? = some c) (hk : c.kind = "latch") : numLat (cs.take i) < numLat cs := by
  have hlt := (List.getElem?_eq_some_iff.mp h).1
  have e : numLat (cs.take (i + 1)) = numLat (cs.take i) + 1 := by
    unfold numLat
    rw [List.take_add_one, h, List.filter_append]
    simp [hk]
  have e2 : numLat (cs.take (i + 1)) ≤ numLat cs := by
    have : cs = cs.take (i + 1) ++ cs.drop (i + 1) := (List.take_append_drop _ _).symm
    rw [this]
    unfold numLat
    rw [List.filter_append, List.length_append]
    simp
  omega
/-- a cell's input, read off the values so far -/
theorem vals_at {xs : List Int} {x : Int} (h0 : 0 ≤ x) (h : x < (xs.length : Int)) : atI (xs.map V.int) x = some (.int (xs.getD x.toNat 0)) := by
  have e : x = (x.toNat : Int) := by omega
  rw [e]
  exact at_map (by omega)
theorem fm_some {α : Type} (f : V → V) (xs : List α) (m : α → V) (n : α → V) (h : ∀ x ∈ xs, f (m x) = n x) : (xs.map m).filterMap (fun v => some (f v)) = xs.map n := by
  induction xs with
  | nil => rfl
  | cons x r ih =>
    rw [List.map_cons, List.map_cons, List.filterMap_cons, h x List.mem_cons_self, ih fun y hy => h y (List.mem_cons_of_mem _ hy)]
def unI : V → Int
  | .int i => i
  | _ => 0

/-! ### cell_values -/
def GoodV (C : CircD) (ins sts : List Int) : Prop := GoodB ins C.n ∧ GoodB sts (C.lats.length : Int)
def sp_cell_values (K : PySem.W.Frag) (a : A) : Sp := fun vs H Q E => ∃ (p li ls : Addr) (C : CircD) (ins sts : List Int), vs = [.ref p, .ref li, .ref ls] ∧ CircAt K H p C ∧ WFC C ∧ SqL K H li (ins.map V.int) ∧ SqL K H ls (sts.map V.int) ∧ Small ins ∧ Small sts ∧
  (GoodV C ins sts → RetL ((valsOf C ins sts).map V.int) H Q) ∧ (¬ GoodV C ins sts → ∀ H', Ex H H' → E (.ref a.C_InvalidValues) none H')
theorem tup4 {xs : List V} {w x y z : V} : atI [w, x, y, z] 0 = some w ∧ atI [w, x, y, z] 1 = some x ∧ atI [w, x, y, z] 2 = some y ∧ atI [w, x, y, z] 3 = some z := ⟨rfl, rfl, rfl, rfl⟩
theorem sp_check {a : A} {H : Hp} {l : Addr} {xs : List Int} {c : Int} {Q : VK} {E : XK} (hS : SqL K H l (xs.map V.int)) (hsm : Small xs) (hc : c.natAbs < 1000) (hg : GoodB xs c → RetV .non H Q) (hb : ¬ GoodB xs c → ∀ H', Ex H H' → E (.ref a.C_InvalidValues) none H') : sp_check_bits K a [.ref l, .int c] H Q E := ⟨l, xs, c, rfl, hS, hsm, hc, hg, hb⟩
theorem ok_cell_values (T : Top K mg w a) : FnOk P w K mg base (L2.CX P w) 2 a.f_cell_values a.d_cell_values ["circuit", "inputs", "states"] (sp_cell_values K a) := by
  refine T.F_cell_values.okX sc_cell_values (fun vs H Q E h => ?_) (fun cdv A outer s H vs Q E hr h => ?_)
  · obtain ⟨p, li, ls, C, ins, sts, rfl, _⟩ := h
    rfl
  · obtain ⟨p, li, ls, C, ins, sts, rfl, hC, hW, hI, hSt, smI, smS, hg, hb⟩ := h
    obtain ⟨pc, po, pl, vs, h1, h2, h3, h4, h5⟩ := hC
    refine ⟨_, (pss_cons (ps_expr (pe_call (ok_check_bits T) (hr.mono (by decide)) (by rfl) T.g_check_bits T.F_check_bits.kp T.b_check_bits .nil (passes_call (E := E) (takes_of rfl rfl rfl rfl) (fun _ _ _ _ h => h)) (pa_cons (pv 1) (pa_cons (pe_ix ix_tup (pv 0) pe_int (fun _ _ => rfl)) pa_nil))))
      (pss_cons (ps_expr (pe_call (ok_check_bits T) (hr.mono (by decide)) (by rfl) T.g_check_bits T.F_check_bits.kp T.b_check_bits .nil (passes_call (E := E) (takes_of rfl rfl rfl rfl) (fun _ _ _ _ h => h)) (pa_cons (pv 2) (pa_cons (pe_callB call_len_seq (by rfl) T.z_len (by decide +kernel) (pa_cons (pe_ix ix_tup (pv 0) pe_int (fun _ _ => rfl)) pa_nil)) pa_nil))))
      (pss_cons (ps_set (i := 3) sc_cell_values.nd rfl (Or.inr rfl) (pe_callTy call_list_of (by rfl) T.z_list (by decide +kernel) (pa_cons (pv 1) pa_nil)))
      (pss_cons (ps_set (i := 4) sc_cell_values.nd rfl (Or.inl rfl) pe_int)
      (pss_cons (ps_for (passes_of rfl) rfl (pi_tup (pe_ix ix_tup (pv 0) pe_int (fun _ _ => rfl))) (pg_tup rfl (pgs_cons (pg_name (i := 5) sc_cell_values.nd rfl (Or.inl rfl)) (pgs_cons (pg_name (i := 6) sc_cell_values.nd rfl (Or.inl rfl)) (pgs_cons (pg_name (i := 7) sc_cell_values.nd rfl (Or.inl rfl)) pgs_nil))))
      (pss_one (ps_if (pt_cmpR op_eq (pv 5) pe_str (nomark _))
      (pss_cons (ps_expr (pe_bm PySem.F.plainAttrs_list PySem.F.slot_list_append PySem.F.type_list_append mt_append (pv 3) (pa_cons (pe_ix ix_list (pv 2) (pv 4) (fun _ _ => rfl)) pa_nil)))
      (pss_one (ps_aug (i := 4) sc_cell_values.nd rfl (Or.inl rfl) pe_int ip_add)))
      (pss_one (ps_expr (pe_bm PySem.F.plainAttrs_list PySem.F.slot_list_append PySem.F.type_list_append mt_append (pv 3) (pa_cons (pe_call (ok_cell_value T) (hr.mono (by decide)) (by rfl) T.g_cell_value T.F_cell_value.kp T.b_cell_value .nil pass0 (pa_cons (pv 5) (pa_cons (pe_lc (own := [("net", 8)]) (by rfl) sc_cell_values.nd (pi_tup (pv 6)) (blkOk_by (own := [("net", 8)]) (N := ["circuit", "inputs", "states", "values", "latch", "kind", "sources", "output", "net"]) (sc := defScope s_cell_values) (by decide +kernel)) (fun _ _ _ _ _ => (pg_name (i := 8) sc_cell_values.nd rfl (Or.inl rfl) (hf := .inr rfl))) (fun _ _ _ _ _ => pts_nil) (fun _ _ _ _ _ => (pe_ix (ixK (r := rIxL) (K := K) ix_list rfl) (pv 3) (pv 8) (fun _ _ => rfl)))) pa_nil))) pa_nil)))))))
      (pss_one (ps_ret (pv 3)))))))), ?_⟩
    refine a_callX (vs := [.ref li, .int C.n]) (Ex.refl H) (ea_cons (ev_var rfl) (ea_cons (ev_op (ev_var rfl) ev_c (rv_ixT h1 rfl)) ea_nil)) (fun H1 e1 => sp_check (ex_l e1 hI) smI (by have := hW.n0; have := hW.n6; omega) (fun g1 H2 e2 => ?_) (fun g1 H2 e2 => hb (fun g => g1 g.1) H2 (e1.trans e2)))
    refine a_callX (vs := [.ref ls, .int (C.lats.length : Int)]) (e1.trans e2) (ea_cons (ev_var rfl) (ea_cons (ev_is (ev_lenT (ev_op (ev_var rfl) ev_c (rv_ixT h1 rfl)) h5) (by rw [List.length_map])) ea_nil)) (fun H3 e3 => sp_check (ex_l e3 hSt) smS (by have := hW.lat4; omega) (fun g2 H4 e4 => ?_) (fun g2 H4 e4 => hb (fun g => g2 g.2) H4 (e3.trans e4)))
    have hV := hg ⟨g1, g2⟩
    refine a_setL (e3.trans e4) (el_listL (ev_var rfl) hI) (fun r H5 hr5 e5 => ?_)
    refine a_set e5 ev_c (fun H6 e6 => ?_)
    have bI : Bits ins := g1.2
    have bS : Bits sts := g2.2
    have lS : sts.length = numLat C.cells := by
      have := g2.1
      rw [← hW.lat]
      omega
    refine a_forTg (G := upd H r (.lst (ins.map V.int))) e6 (ev_op (ev_var rfl) ev_c (rv_ixT (ex_t (Ex.new hr5) h1) rfl)) (ex_t (Ex.new hr5) h2)
      (fun i σ' H' => ∃ y1 y2 y3 y4, σ' = [some (.ref p), some (.ref li), some (.ref ls), some (.ref r), some (.int ((runV sts ins (C.cells.take i)).2 : Nat)), y1, y2, y3, y4] ∧ Ex (upd H r (.lst ((runV sts ins (C.cells.take i)).1.map V.int))) H')
      (fun H7 e7 => ⟨none, none, none, none, rfl, e7⟩) (fun i σ' H' _ ⟨_, _, _, _, _, e7⟩ => ex_t ((Ex.new hr5).trans e7) h2) ?_ ?_
    · rintro i x σ' H' hx ⟨y1, y2, y3, y4, rfl, e7⟩
      have hlt := (List.getElem?_eq_some_iff.mp hx).1
      have hltc : i < C.cells.length := by rw [← h3.1]; exact hlt
      have hc : C.cells[i]? = some C.cells[i] := List.getElem?_eq_getElem hltc
      generalize C.cells[i] = c at hc
      obtain ⟨pk, qk, rfl, hk1, hk2⟩ := h3.2 i x c hx hc
      obtain ⟨kc, ko, kin, kl⟩ := hW.kind i c hc
      obtain ⟨rl1, rl2⟩ := run_len (sts := sts) (ins := ins) (C.cells.take i)
      have hlen : (C.cells.take i).length = i := by rw [List.length_take]; omega
      have hbits := run_bits bI bS (C.cells.take i)
      have hmore := run_more (sts := sts) (ins := ins) hc
      generalize runV sts ins (C.cells.take i) = R at e7 rl1 rl2 hbits hmore
      rw [hmore]
      have sG : ∀ {o : HO}, Ex H (upd H r o) := Ex.new hr5
      refine g3 (ex_t (sG.trans e7) hk1) ?_
      have hz : R.1.length < 100000 := by
        have := hW.len; have := hW.n6; have := g1.1
        omega
      refine a_if e7 (et_test (ev_op (ev_var rfl) ev_c (rv_eq rfl))) (fun hb H8 e8 => ?_) (fun hb H8 e8 => ?_)
      · rw [dec_str] at hb
        have kl2 := of_decide_eq_true hb
        have hnl := numLat_take hc kl2
        refine a_app (v := .int (sts.getD R.2 0)) e8 (ev_var rfl) upd_same (ev_op (ev_var rfl) (ev_var rfl) (rv_ixL (ex_l sG hSt) (at_map (by rw [rl2]; omega)))) (by rw [List.length_map]; exact hz) (fun H9 e9 => ?_)
        rw [upd_upd] at e9
        refine a_aug1 e9 rfl ev_c (fun H10 e10 => ?_)
        rw [show stepV sts R c = (R.1 ++ [sts.getD R.2 0], R.2 + 1) from if_pos kl2]
        refine ⟨_, _, _, _, rfl, ?_⟩
        show Ex (upd H r (.lst ((R.1 ++ [sts.getD R.2 0]).map V.int))) H10
        rw [List.map_append]
        exact e10
      · rw [dec_str] at hb
        have kl2 := of_decide_eq_false hb
        have hin : ∀ x ∈ c.ins, 0 ≤ x ∧ x < (R.1.length : Int) := fun x hx => by
          have a1 := (kin x hx).1
          have a2 := kl kl2 x hx
          have a3 := g1.1
          omega
        have bins : Bits (c.ins.map fun i => R.1.getD i.toNat 0) := fun b hb => by
          obtain ⟨x, _, rfl⟩ := List.mem_map.mp hb
          exact bits_getD hbits _
        refine a_app1 (v := .int (cellV c.kind (c.ins.map fun i => R.1.getD i.toNat 0))) e8 (ev_var rfl) upd_same ?_ (by rw [List.length_map]; exact hz) (fun H9 e9 => ?_)
        · refine ev_callL (x := .str c.kind) (xs := (c.ins.map fun i => R.1.getD i.toNat 0).map V.int) ?_ (fun H1 x1 => ?_) (fun q H1 x1 hq Q k E => ?_)
          · exact ev_var rfl
          · have e := fm_some (fun v => V.int (R.1.getD (unI v).toNat 0)) c.ins V.int (fun x => V.int (R.1.getD x.toNat 0)) (fun _ _ => rfl)
            rw [List.map_map]
            show EvL _ _ _ (c.ins.map fun x => V.int (R.1.getD x.toNat 0))
            rw [← e]
            refine el_fT _ (ev_var rfl) (ex_t (sG.trans x1) hk2) (by
              have := kc_le kc
              rw [List.length_map]; omega) (fun x hx => ?_)
            obtain ⟨n, hn, rfl⟩ := List.mem_map.mp hx
            exact turn_map rfl (ev_op (ev_var rfl) (ev_var rfl) (rv_ixL (ex_l x1 (sq_of upd_same)) (vals_at (hin n hn).1 (hin n hn).2)))
          · refine ⟨c.kind, q, _, rfl, sq_of hq, bins, fun t0 t1 z => ?_, k⟩
            have := kc_pos kc t0 t1
            rw [List.map_eq_nil_iff] at z
            rw [z] at this
            exact absurd this (Nat.lt_irrefl 0)
        rw [upd_upd] at e9
        rw [show stepV sts R c = (R.1 ++ [cellV c.kind (c.ins.map fun i => R.1.getD i.toNat 0)], R.2) from if_neg kl2]
        refine ⟨_, _, _, _, rfl, ?_⟩
        · show Ex (upd H r (.lst ((R.1 ++ [cellV c.kind (c.ins.map fun i => R.1.getD i.toNat 0)]).map V.int))) H9
          rw [List.map_append]
          exact e9
    · rintro σ' H' ⟨y1, y2, y3, y4, rfl, e7⟩
      rw [h3.1, List.take_of_length_le (Nat.le_refl _)] at e7
      refine a_ret e7 (ev_var rfl) (fun H8 e8 => ?_)
      exact hV r H8 hr5 ((Ex.new hr5).trans e8) (e8 r _ upd_same)
def outsOf (C : CircD) (vals : List Int) : List Int := C.outs.map fun x => vals.getD x.toNat 0
def nextsOf (C : CircD) (vals : List Int) : List Int := (C.cells.filter fun c : CellD => decide (c.kind = ("latch" : Str))).map fun c => vals.getD (c.ins.getD 0 0).toNat 0
theorem nexts_fm (C : CircD) (vals : List Int) : (C.cells.filterMap fun c : CellD => if c.kind = ("latch" : Str) then some (V.int (vals.getD (c.ins.getD 0 0).toNat 0)) else none) = (nextsOf C vals).map V.int := by
  unfold nextsOf
  induction C.cells with
  | nil => rfl
  | cons c r ih =>
    rw [List.filterMap_cons, List.filter_cons]
    by_cases h : c.kind = "latch"
    · rw [if_pos h, if_pos (decide_eq_true h), ih]
      rfl
    · rw [if_neg h, if_neg (by rw [decide_eq_false h]; exact Bool.false_ne_true), ih]
theorem vals_len {C : CircD} {ins sts : List Int} (g : GoodV C ins sts) (hW : WFC C) : ((valsOf C ins sts).length : Int) = C.n + (C.cells.length : Int) := by
  have h1 := (run_len (sts := sts) (ins := ins) C.cells).1
  have h2 := g.1.1
  unfold valsOf
  omega
def sp_circuit_outputs (K : PySem.W.Frag) (a : A) : Sp := fun vs H Q E => ∃ (p li ls : Addr) (C : CircD) (ins sts : List Int), vs = [.ref p, .ref li, .ref ls] ∧ CircAt K H p C ∧ WFC C ∧ SqL K H li (ins.map V.int) ∧ SqL K H ls (sts.map V.int) ∧ Small ins ∧ Small sts ∧
  (GoodV C ins sts → RetL ((outsOf C (valsOf C ins sts)).map V.int) H Q) ∧ (¬ GoodV C ins sts → ∀ H', Ex H H' → E (.ref a.C_InvalidValues) none H')
theorem ok_circuit_outputs (T : Top K mg w a) : FnOk P w K mg base (L2.CX P w) 3 a.f_circuit_outputs a.d_circuit_outputs ["circuit", "inputs", "states"] (sp_circuit_outputs K a) := by
  refine T.F_circuit_outputs.okX sc_circuit_outputs (fun vs H Q E h => ?_) (fun cdv A outer s H vs Q E hr h => ?_)
  · obtain ⟨p, li, ls, C, ins, sts, rfl, _⟩ := h
    rfl
  · obtain ⟨p, li, ls, C, ins, sts, rfl, hC, hW, hI, hSt, smI, smS, hg, hb⟩ := h
    have hC' := hC
    obtain ⟨pc, po, pl, vs, h1, h2, h3, h4, h5⟩ := hC
    refine ⟨_, (pss_cons (ps_set (i := 3) sc_circuit_outputs.nd rfl (Or.inr rfl) (pe_call (ok_cell_values T) (hr.mono (by decide)) (by rfl) T.g_cell_values T.F_cell_values.kp T.b_cell_values .nil (passes_call (E := E) (takes_of rfl rfl rfl rfl) (fun _ _ _ _ h => h)) (pa_cons (pv 0) (pa_cons (pv 1) (pa_cons (pv 2) pa_nil)))))
      (pss_one (ps_ret (pe_lc (own := [("net", 4)]) (by rfl) sc_circuit_outputs.nd (pi_tup (pe_ix ix_tup (pv 0) pe_int (fun _ _ => rfl))) (blkOk_by (own := [("net", 4)]) (N := ["circuit", "inputs", "states", "values", "net"]) (sc := defScope s_circuit_outputs) (by decide +kernel)) (fun _ _ _ _ _ => (pg_name (i := 4) sc_circuit_outputs.nd rfl (Or.inl rfl) (hf := .inr rfl))) (fun _ _ _ _ _ => pts_nil) (fun _ _ _ _ _ => (pe_ix (ixK (r := rIxL) (K := K) ix_list rfl) (pv 3) (pv 4) (fun _ _ => rfl))))))), ?_⟩
    refine a_setX (vs := [.ref p, .ref li, .ref ls]) (Ex.refl H) (ea_cons (ev_var rfl) (ea_cons (ev_var rfl) (ea_cons (ev_var rfl) ea_nil))) (fun H1 e1 => ⟨p, li, ls, C, ins, sts, rfl, circ_mono e1 hC', hW, ex_l e1 hI, ex_l e1 hSt, smI, smS, fun g r H2 hr2 e2 h2' => ?_, fun g H2 e2 => hb g H2 (e1.trans e2)⟩)
    have hl := vals_len g hW
    have q := hg g
    refine a_retL (G := H2) (xs := (outsOf C (valsOf C ins sts)).map V.int) (Ex.refl H2) ?_ (fun s H3 hs e3 h3' => q s H3 (fresh_back (e1.trans e2) hs) ((e1.trans e2).trans e3) h3')
    unfold outsOf
    rw [List.map_map]
    show EvL _ _ _ (C.outs.map fun x => V.int ((valsOf C ins sts).getD x.toNat 0))
    rw [← fm_map (fun x : Int => V.int ((valsOf C ins sts).getD x.toNat 0)) C.outs]
    have h4' : SqT K H2 po (C.outs.map V.int) := ex_t (e1.trans e2) h4
    refine el_dT (cs := C.outs) (fun x => some (V.int ((valsOf C ins sts).getD x.toNat 0))) (a := po) ?_ h4' (by rw [List.length_map]) (by have := hW.outl; omega) (fun i x c hx hc => ?_)
    · exact ev_op (ev_var rfl) ev_c (rv_ixT (ex_t (e1.trans e2) h1) rfl)
    have ex : x = .int c := by
      rw [List.getElem?_map, hc] at hx
      exact (Option.some.inj hx).symm
    subst ex
    have hm := hW.outs c (List.mem_of_getElem? hc)
    exact turn_mapD rfl (ev_op (ev_var rfl) (ev_var rfl) (rv_ixL (sq_of h2') (vals_at hm.1 (by omega))))
def sp_circuit_next (K : PySem.W.Frag) (a : A) : Sp := fun vs H Q E => ∃ (p li ls : Addr) (C : CircD) (ins sts : List Int), vs = [.ref p, .ref li, .ref ls] ∧ CircAt K H p C ∧ WFC C ∧ SqL K H li (ins.map V.int) ∧ SqL K H ls (sts.map V.int) ∧ Small ins ∧ Small sts ∧
  (GoodV C ins sts → RetL ((nextsOf C (valsOf C ins sts)).map V.int) H Q) ∧ (¬ GoodV C ins sts → ∀ H', Ex H H' → E (.ref a.C_InvalidValues) none H')
theorem ok_circuit_next (T : Top K mg w a) : FnOk P w K mg base (L2.CX P w) 3 a.f_circuit_next a.d_circuit_next ["circuit", "inputs", "states"] (sp_circuit_next K a) := by
  refine T.F_circuit_next.okX sc_circuit_next (fun vs H Q E h => ?_) (fun cdv A outer s H vs Q E hr h => ?_)
  · obtain ⟨p, li, ls, C, ins, sts, rfl, _⟩ := h
    rfl
  · obtain ⟨p, li, ls, C, ins, sts, rfl, hC, hW, hI, hSt, smI, smS, hg, hb⟩ := h
    have hC' := hC
    obtain ⟨pc, po, pl, vs, h1, h2, h3, h4, h5⟩ := hC
    refine ⟨_, (pss_cons (ps_set (i := 3) sc_circuit_next.nd rfl (Or.inr rfl) (pe_call (ok_cell_values T) (hr.mono (by decide)) (by rfl) T.g_cell_values T.F_cell_values.kp T.b_cell_values .nil (passes_call (E := E) (takes_of rfl rfl rfl rfl) (fun _ _ _ _ h => h)) (pa_cons (pv 0) (pa_cons (pv 1) (pa_cons (pv 2) pa_nil)))))
      (pss_one (ps_ret (pe_lc (own := [("kind", 4), ("sources", 5), ("output", 6)]) (by rfl) sc_circuit_next.nd (pi_tup (pe_ix ix_tup (pv 0) pe_int (fun _ _ => rfl))) (blkOk_by (own := [("kind", 4), ("sources", 5), ("output", 6)]) (N := ["circuit", "inputs", "states", "values", "kind", "sources", "output"]) (sc := defScope s_circuit_next) (by decide +kernel)) (fun _ _ _ _ _ => (pgK (n := 3) (K := K) (pg_tup rfl (pgs_cons (pg_name (i := 4) sc_circuit_next.nd rfl (Or.inl rfl) (hf := .inr rfl)) (pgs_cons (pg_name (i := 5) sc_circuit_next.nd rfl (Or.inl rfl) (hf := .inr rfl)) (pgs_cons (pg_name (i := 6) sc_circuit_next.nd rfl (Or.inl rfl) (hf := .inr rfl)) pgs_nil)))) rfl)) (fun _ _ _ _ _ => pts_one (pt_cmpR op_eq (pv 4) pe_str (nomark _))) (fun _ _ _ _ _ => (pe_ix (ixK (r := rIxL) (K := K) ix_list rfl) (pv 3) (pe_ix (ixK (r := rIxT) (K := K) ix_tup rfl) (pv 5) pe_int (fun _ _ => rfl)) (fun _ _ => rfl))))))), ?_⟩
    refine a_setX (vs := [.ref p, .ref li, .ref ls]) (Ex.refl H) (ea_cons (ev_var rfl) (ea_cons (ev_var rfl) (ea_cons (ev_var rfl) ea_nil))) (fun H1 e1 => ⟨p, li, ls, C, ins, sts, rfl, circ_mono e1 hC', hW, ex_l e1 hI, ex_l e1 hSt, smI, smS, fun g r H2 hr2 e2 h2' => ?_, fun g H2 e2 => hb g H2 (e1.trans e2)⟩)
    have hl := vals_len g hW
    have q := hg g
    refine a_retL (G := H2) (xs := (nextsOf C (valsOf C ins sts)).map V.int) (Ex.refl H2) ?_ (fun s H3 hs e3 h3' => q s H3 (fresh_back (e1.trans e2) hs) ((e1.trans e2).trans e3) h3')
    rw [← nexts_fm]
    refine el_dT (cs := C.cells) _ (ev_op (ev_var rfl) ev_c (rv_ixT (ex_t (e1.trans e2) h1) rfl)) (ex_t (e1.trans e2) h2) h3.1 (by have := hW.len; omega) (fun i x c hx hc => ?_)
    obtain ⟨pk, qk, rfl, hk1, hk2⟩ := h3.2 i x c hx hc
    obtain ⟨kc, ko, kin, kl⟩ := hW.kind i c hc
    refine ⟨_, fun H3 e3 Q q => g3 (ex_t ((e1.trans e2).trans e3) hk1) (q H3 (Ex.refl H3)), rfl, ?_, fun y hy => ?_⟩
    · refine et_is (et_test (ev_op (ev_var rfl) ev_c (rv_eq rfl))) ?_
      rw [dec_str]
      by_cases hk : c.kind = "latch"
      · rw [if_pos hk]; exact decide_eq_true hk
      · rw [if_neg hk]; exact decide_eq_false hk
    · by_cases hk : c.kind = "latch"
      · rw [if_pos hk] at hy
        obtain rfl := Option.some.inj hy
        have h1c := kc_latch kc hk
        have hm := kin (c.ins.getD 0 0) (by
          rw [List.getD_eq_getElem?_getD, List.getElem?_eq_getElem (by omega)]
          exact List.getElem_mem _)
        exact ev_op (ev_var rfl) (ev_op (ev_var rfl) ev_c (rv_ixT (ex_t (e1.trans e2) hk2) (at_map (k := 0) (by omega)))) (rv_ixL (sq_of h2') (vals_at hm.1 (by omega)))
      · rw [if_neg hk] at hy
        cases hy

/-! ### _law_kind, _law_drawn, _law_circuit: the drawn circuits -/
def kinds16 : List Str := ["not", "not", "nand2", "nand2", "nand2", "nand3", "nand3", "nor2", "nor2", "nor2", "nor3", "nor3", "latch", "latch", "tie0", "tie1"]
theorem kinds16_at (j : Nat) (h : j < 16) : ∃ k m, (kinds16.map V.str)[j]? = some (.str k) ∧ KC k m := by
  match j, h with
  | 0, _ => exact ⟨_, _, rfl, .not⟩
  | 1, _ => exact ⟨_, _, rfl, .not⟩
  | 2, _ => exact ⟨_, _, rfl, .nand2⟩
  | 3, _ => exact ⟨_, _, rfl, .nand2⟩
  | 4, _ => exact ⟨_, _, rfl, .nand2⟩
  | 5, _ => exact ⟨_, _, rfl, .nand3⟩
  | 6, _ => exact ⟨_, _, rfl, .nand3⟩
  | 7, _ => exact ⟨_, _, rfl, .nor2⟩
  | 8, _ => exact ⟨_, _, rfl, .nor2⟩
  | 9, _ => exact ⟨_, _, rfl, .nor2⟩
  | 10, _ => exact ⟨_, _, rfl, .nor3⟩
  | 11, _ => exact ⟨_, _, rfl, .nor3⟩
  | 12, _ => exact ⟨_, _, rfl, .latch⟩
  | 13, _ => exact ⟨_, _, rfl, .latch⟩
  | 14, _ => exact ⟨_, _, rfl, .tie0⟩
  | 15, _ => exact ⟨_, _, rfl, .tie1⟩
  | j + 16, h => omega
def sp_law_kind (K : PySem.W.Frag) : Sp := fun vs H Q _ => ∃ (l : Addr) (ps : List Int) (nets lat : Int), vs = [.ref l, .int nets, .int lat] ∧ SqL K H l (ps.map V.int) ∧ 2 ≤ ps.length ∧ 0 ≤ ps.getD 0 0 ∧ ps.getD 0 0 < 16 ∧ 0 ≤ ps.getD 1 0 ∧ 0 ≤ nets ∧ nets ≤ 1000 ∧
  ∀ k m, KC k m → (k = "latch" → lat ≠ 4) → (k ≠ "latch" → (m : Int) ≤ nets) → RetV (.str k) H Q
theorem kc_in {k : Str} {m : Nat} (h : KC k m) : (inV (.str k) [.str "nand2", .str "nor2", .str "nand3", .str "nor3"] = true → atI k.cps.toList (-1) = some (48 + m) ∧ PySem.intText? ⟨#[48 + m]⟩ = some (m : Int) ∧ 2 ≤ m ∧ m ≤ 3) ∧ (inV (.str k) [.str "nand2", .str "nor2", .str "nand3", .str "nor3"] = false → k ≠ "latch" → m ≤ 1) ∧ k.length ≤ 100000 := by
  cases h <;> refine ⟨fun h => ?_, fun h hl => ?_, by decide +kernel⟩ <;> first
    | exact ⟨by decide +kernel, by decide +kernel, by decide, by decide⟩
    | (exfalso; revert h; decide +kernel)
    | decide
    | exact absurd rfl hl
theorem ev_inNL {σ : L2.St} {G : Hp} {ta tb : TE} {x : V} {xs : List V} (ha : Ev ta σ G x) (hb : EvL tb σ G xs) (hx : flatV x = true) (hf : xs.all flatV = true) : Ev (tOp (rIn K false) ta tb) σ G (.bl (inV x xs)) := ev_opL ha hb fun _ _ h _ => rv_isL (sq_of h) hx hf
theorem ok_law_kind (T : Top K mg w a) : FnOk P w K mg base CX0 1 a.f_law_kind a.d_law_kind ["parts", "nets", "latches"] (sp_law_kind K) := by
  refine T.F_law_kind.ok sc_law_kind (fun vs H Q E h => ?_) (fun cdv A outer s H vs Q E hr h => ?_)
  · obtain ⟨l, ps, nets, lat, rfl, _⟩ := h
    rfl
  · obtain ⟨l, ps, nets, lat, rfl, hS, hp2, p0, p0', p1, hn0, hn1, q⟩ := h
    refine ⟨_, (pss_cons (ps_set (i := 3) sc_law_kind.nd rfl (Or.inl rfl) (pe_lst (pa_cons pe_str (pa_cons pe_str (pa_cons pe_str (pa_cons pe_str (pa_cons pe_str (pa_cons pe_str (pa_cons pe_str (pa_cons pe_str (pa_cons pe_str (pa_cons pe_str (pa_cons pe_str (pa_cons pe_str pa_nil))))))))))))))
      (pss_cons (ps_set (i := 4) sc_law_kind.nd rfl (Or.inl rfl) (pe_ix ix_list (pe_op (op_catL) (pv 3) (pe_lst (pa_cons pe_str (pa_cons pe_str (pa_cons pe_str (pa_cons pe_str pa_nil)))))) (pe_ix ix_list (pv 0) pe_int (fun _ _ => rfl)) (fun _ _ => rfl)))
      (Evl.pss_cut (ps_if (PW.pt (pw_and (pt_cmpR op_eq (pv 4) pe_str (nomark _)) (pw_and1 (pt_cmpR op_eq (pv 2) pe_int (nomark _)))))
      (pss_one (ps_set (i := 4) sc_law_kind.nd rfl (Or.inl rfl) pe_str))
      pss_nil)
      (pss_cons (ps_if (PW.pt (pw_and (pt_cmpR op_eq (pv 1) pe_int (nomark _)) (pw_and1 (pt_cmpR op_ne (pv 4) pe_str (nomark _)))))
      (pss_one (ps_ret (pe_ix ix_list (pe_lst (pa_cons pe_str (pa_cons pe_str pa_nil))) (pe_op op_mod (pe_callTy call_int1 (by rfl) T.z_int (by decide +kernel) (pa_cons (pe_ix ix_list (pv 0) pe_int (fun _ _ => rfl)) pa_nil)) pe_int) (fun _ _ => rfl))))
      pss_nil)
      (pss_cons (ps_if (PW.pt (pw_and (pt_cmpR op_in_seq (pv 4) (pe_lst (pa_cons pe_str (pa_cons pe_str (pa_cons pe_str (pa_cons pe_str pa_nil))))) (by rfl)) (pw_and1 (pt_cmpR op_lt (pv 1) (pe_callTy call_int_str (by rfl) T.z_int (by decide +kernel) (pa_cons (pe_ix ix_str (pv 4) (pe_un un_neg pe_int) (fun _ _ => rfl)) pa_nil)) (nomark _)))))
      (pss_one (ps_ret (pe_ix ix_list (pe_lst (pa_cons pe_str (pa_cons pe_str pa_nil))) (pe_op op_sub (pv 1) pe_int) (fun _ _ => rfl))))
      pss_nil)
      (pss_one (ps_ret (pv 4)))))))), ?_⟩
    refine a_setL (Ex.refl H) (el_lst (vs := (kinds16.take 12).map V.str) (ea_cons ev_c (ea_cons ev_c (ea_cons ev_c (ea_cons ev_c (ea_cons ev_c (ea_cons ev_c (ea_cons ev_c (ea_cons ev_c (ea_cons ev_c (ea_cons ev_c (ea_cons ev_c (ea_cons ev_c ea_nil)))))))))))) (by decide)) (fun r H1 hr1 e1 => ?_)
    have hS1 : SqL K (upd H r (.lst ((kinds16.take 12).map V.str))) l (ps.map V.int) := ex_l (Ex.new hr1) hS
    have hR : SqL K (upd H r (.lst ((kinds16.take 12).map V.str))) r ((kinds16.take 12).map V.str) := sq_of upd_same
    have xG : Ex H (upd H r (.lst ((kinds16.take 12).map V.str))) := Ex.new hr1
    generalize upd H r (.lst ((kinds16.take 12).map V.str)) = G at e1 hS1 hR xG
    obtain ⟨j, hj⟩ : ∃ j : Nat, ps.getD 0 0 = (j : Int) := ⟨(ps.getD 0 0).toNat, by omega⟩
    obtain ⟨k, m, hk, kc⟩ := kinds16_at j (by omega)
    have c16 : (kinds16.take 12).map V.str ++ [V.str "latch", V.str "latch", V.str "tie0", V.str "tie1"] = kinds16.map V.str := rfl
    refine a_set e1 (v := .str k) (ev_opL1 (el_catLN (ev_var rfl) hR (fun H1 _ => el_lst (ea_cons ev_c (ea_cons ev_c (ea_cons ev_c (ea_cons ev_c ea_nil)))) (by decide)) (by decide)) (fun H1 x1 => ev_op (ev_var rfl) ev_c (rv_ixL (ex_l x1 hS1) (at_map (k := 0) (by omega)))) (fun p H1 hp _ => rv_ixL (sq_of hp) (by rw [c16, hj]; exact atI_nat hk))) (fun H2 e2 => ?_)
    -- a fifth latch is a not
    refine a_whenS (M := fun σ' H' => ∃ k m, KC k m ∧ (k = "latch" → lat ≠ 4) ∧ σ' = [some (.ref l), some (.int nets), some (.int lat), some (.ref r), some (.str k)] ∧ Ex G H') e2 (et_and (et_test (ev_op (ev_var rfl) ev_c (rv_eq rfl))) fun _ => et_test (ev_op (ev_var rfl) ev_c (rv_eq rfl))) (fun hb H3 e3 => ?_) (fun hb H3 e3 => ?_) ?_
    · exact a_set1 e3 ev_c (fun H4 e4 => ⟨"not", 1, .not, fun z => absurd z (by decide +kernel), rfl, e4⟩)
    · rw [dec_str, dec_int] at hb
      refine ⟨k, m, kc, fun h h4 => ?_, rfl, e3⟩
      rw [decide_eq_true h, decide_eq_true h4] at hb
      cases hb
    rintro σ' H3 ⟨k, m, kc, hla, rfl, e3⟩
    obtain ⟨kin1, kin2, klen⟩ := kc_in kc
    refine a_when e3 (et_and (et_test (ev_op (ev_var rfl) ev_c (rv_eq rfl))) fun _ => et_test (ev_op (ev_var rfl) ev_c (rv_ne rfl))) (fun hb H4 e4 => ?_) (fun hb H4 e4 => ?_)
    · rcases (show ps.getD 1 0 % 2 = 0 ∨ ps.getD 1 0 % 2 = 1 by omega) with h | h
      · exact a_ret e4 (v := .str "tie0") (ev_opL1 (el_lst (ea_cons ev_c (ea_cons ev_c ea_nil)) (by decide)) (fun H1 x1 => ev_op (ev_int1 (ev_op (ev_var rfl) ev_c (rv_ixL (ex_l x1 hS1) (at_map (k := 1) (by omega))))) ev_c (rv_I (by decide))) (fun p H1 hp _ => rv_ixL (sq_of hp) (by rw [h]; rfl))) (fun H5 e5 => q "tie0" 0 .tie0 (fun z => absurd z (by decide +kernel)) (fun _ => hn0) H5 (xG.trans e5))
      · exact a_ret e4 (v := .str "tie1") (ev_opL1 (el_lst (ea_cons ev_c (ea_cons ev_c ea_nil)) (by decide)) (fun H1 x1 => ev_op (ev_int1 (ev_op (ev_var rfl) ev_c (rv_ixL (ex_l x1 hS1) (at_map (k := 1) (by omega))))) ev_c (rv_I (by decide))) (fun p H1 hp _ => rv_ixL (sq_of hp) (by rw [h]; rfl))) (fun H5 e5 => q "tie1" 0 .tie1 (fun z => absurd z (by decide +kernel)) (fun _ => hn0) H5 (xG.trans e5))
    rw [dec_int, dec_str] at hb
    have hz : k ≠ "latch" → nets ≠ 0 := fun h h0 => by
      rw [decide_eq_true h0, decide_eq_false h] at hb
      cases hb
    by_cases hin : inV (.str k) [.str "nand2", .str "nor2", .str "nand3", .str "nor3"] = true
    · obtain ⟨i1, i2, i3, i4⟩ := kin1 hin
      have hkl : k ≠ "latch" := fun h => by
        rw [h] at hin
        revert hin
        decide +kernel
      have hnz := hz hkl
      refine a_when e4 (b := decide (nets < (m : Int))) (et_is (et_and (et_test (ev_inNL (ev_var rfl) (el_lst (ea_cons ev_c (ea_cons ev_c (ea_cons ev_c (ea_cons ev_c ea_nil)))) (by decide)) rfl rfl)) fun _ => et_test (ev_op (ev_var rfl) (ev_intS (ev_op (ev_var rfl) (ev_un ev_c ru_neg) (rv_ixS klen i1)) i2 (by show 1 ≤ 640; decide)) rv_I0)) (by rw [hin]; rfl)) (fun hb H5 e5 => ?_) (fun hb H5 e5 => ?_)
      · have hlt := of_decide_eq_true hb
        rcases (show nets - 1 = 0 ∨ nets - 1 = 1 by omega) with h | h
        · exact a_ret e5 (v := .str "not") (ev_opL1 (el_lst (ea_cons ev_c (ea_cons ev_c ea_nil)) (by decide)) (fun H1 x1 => ev_op (ev_var rfl) ev_c rv_I0) (fun p H1 hp _ => rv_ixL (sq_of hp) (by rw [h]; rfl))) (fun H6 e6 => q "not" 1 .not (fun z => absurd z (by decide +kernel)) (fun _ => by omega) H6 (xG.trans e6))
        · exact a_ret e5 (v := .str "nand2") (ev_opL1 (el_lst (ea_cons ev_c (ea_cons ev_c ea_nil)) (by decide)) (fun H1 x1 => ev_op (ev_var rfl) ev_c rv_I0) (fun p H1 hp _ => rv_ixL (sq_of hp) (by rw [h]; rfl))) (fun H6 e6 => q "nand2" 2 .nand2 (fun z => absurd z (by decide +kernel)) (fun _ => by omega) H6 (xG.trans e6))
      · have hlt := of_decide_eq_false hb
        exact a_ret e5 (ev_var rfl) (fun H6 e6 => q k m kc hla (fun _ => by omega) H6 (xG.trans e6))
    · have hin := Bool.eq_false_iff.mpr hin
      refine a_when e4 (b := false) (et_is (et_and (b := false) (et_test (ev_inNL (ev_var rfl) (el_lst (ea_cons ev_c (ea_cons ev_c (ea_cons ev_c (ea_cons ev_c ea_nil)))) (by decide)) rfl rfl)) fun h => absurd h (by rw [hin]; decide)) (by rw [hin]; rfl)) (fun hb => nomatch hb) (fun hb H5 e5 => ?_)
      refine a_ret e5 (ev_var rfl) (fun H6 e6 => q k m kc hla (fun hl => ?_) H6 (xG.trans e6))
      have := kin2 hin hl
      have := hz hl
      omega
/-- drawn nets: different, below n -/
structure Drawn (ds : List Int) (n : Int) : Prop where
  rg : ∀ d ∈ ds, 0 ≤ d ∧ d < n
  nd : ds.Nodup
def sp_law_drawn (K : PySem.W.Frag) : Sp := fun vs H Q _ => ∃ (l : Addr) (ps : List Int) (c n : Int), vs = [.ref l, .int c, .int n] ∧ SqL K H l (ps.map V.int) ∧ 4 ≤ ps.length ∧ (∀ x ∈ ps, 0 ≤ x) ∧ 0 ≤ c ∧ c ≤ 3 ∧ c ≤ n ∧ n ≤ 1000 ∧
  ∀ ds, Drawn ds n → (ds.length : Int) = c → ∀ p H2, H p = none → Ex H H2 → H2 p = some (.tup (ds.map V.int)) → Q (.ref p) H2
theorem rng_int (n : Int) : rng n = ((List.range n.toNat).map fun (i : Nat) => (i : Int)).map V.int := by
  unfold rng
  rw [List.map_map]
  rfl
theorem map_erase : ∀ {xs : List Int} {k : Nat}, (xs.map V.int).eraseIdx k = (xs.eraseIdx k).map V.int
  | [], _ => rfl
  | x :: r, 0 => rfl
  | x :: r, k + 1 => congrArg (V.int x :: ·) (map_erase (xs := r) (k := k))
theorem perm_erase : ∀ (l : List Int) (k : Nat) (h : k < l.length), (l[k] :: l.eraseIdx k).Perm l
  | [], _, h => absurd h (Nat.not_lt_zero _)
  | x :: r, 0, _ => List.Perm.refl _
  | x :: r, k + 1, h => (List.Perm.swap x _ _).trans (List.Perm.cons x (perm_erase r k (Nat.lt_of_succ_lt_succ h)))
theorem ok_law_drawn (T : Top K mg w a) : FnOk P w K mg base CX0 1 a.f_law_drawn a.d_law_drawn ["parts", "count", "nets"] (sp_law_drawn K) := by
  refine T.F_law_drawn.ok sc_law_drawn (fun vs H Q E h => ?_) (fun cdv A outer s H vs Q E hr h => ?_)
  · obtain ⟨l, ps, c, n, rfl, _⟩ := h
    rfl
  · obtain ⟨l, ps, c, n, rfl, hS, hp4, hp0, hc0, hc3, hcn, hn, q⟩ := h
    refine ⟨_, (pss_cons (ps_set (i := 3) sc_law_drawn.nd rfl (Or.inl rfl) (pe_listRg rfl (by rfl) T.z_list (prg_1 (by rfl) T.z_range (pv 2))))
      (pss_cons (ps_set (i := 4) sc_law_drawn.nd rfl (Or.inl rfl) (pe_lst pa_nil))
      (pss_cons (ps_for PassesOwn.never rfl (pi_range1 rfl T.z_range (pa_cons (pv 1) pa_nil)) (pg_name (i := 5) sc_law_drawn.nd rfl (Or.inl rfl))
      (pss_one (ps_expr (pe_bm PySem.F.plainAttrs_list PySem.F.slot_list_append PySem.F.type_list_append mt_append (pv 4) (pa_cons (pe_bm PySem.F.plainAttrs_list PySem.F.slot_list_pop PySem.F.type_list_pop mt_popAt (pv 3) (pa_cons (pe_op op_mod (pe_callTy call_int1 (by rfl) T.z_int (by decide +kernel) (pa_cons (pe_ix ix_list (pv 0) (pe_op op_add pe_int (pv 5)) (fun _ _ => rfl)) pa_nil)) (pe_callB call_len_seq (by rfl) T.z_len (by decide +kernel) (pa_cons (pv 3) pa_nil))) pa_nil)) pa_nil)))))
      (pss_one (ps_ret (pe_callTy call_tuple_of (by rfl) T.z_tuple (by decide +kernel) (pa_cons (pv 4) pa_nil))))))), ?_⟩
    refine a_setL (Ex.refl H) (el_listRg (ev_var rfl) ⟨by omega, by omega⟩) (fun m H1 hm e1 => ?_)
    rw [rng_int] at e1
    refine a_setL e1 (el_lst ea_nil (by decide)) (fun p H2 hp e2 => ?_)
    have hpm : p ≠ m := fun z => by
      rw [z, upd_same] at hp
      cases hp
    have hpH : H p = none := by
      rw [upd_ne hpm] at hp
      exact hp
    refine a_forR (n := c) e2 (ea_cons (ev_var rfl) ea_nil) ⟨hc0, by omega⟩
      (fun i σ' H' => ∃ (y : Option V) (left ds : List Int), σ' = [some (.ref l), some (.int c), some (.int n), some (.ref m), some (.ref p), y] ∧ ds.length = i ∧ left.length + i = n.toNat ∧ (left ++ ds).Nodup ∧ (∀ d ∈ left ++ ds, 0 ≤ d ∧ d < n) ∧ Ex (upd (upd H m (.lst (left.map V.int))) p (.lst (ds.map V.int))) H')
      (fun H3 e3 => ⟨none, _, [], rfl, rfl, by rw [List.length_map, List.length_range]; rfl, by
        rw [List.append_nil]
        exact List.Pairwise.map _ (fun a b h z => h (by omega)) List.nodup_range, fun d hd => by
        rw [List.append_nil] at hd
        obtain ⟨i, hi, rfl⟩ := List.mem_map.mp hd
        have := List.mem_range.mp hi
        omega, e3⟩) ?_ ?_
    · rintro i σ' H' hi ⟨y, left, ds, rfl, hl, hlen, hnd, hrg, e3⟩
      have hpos : 0 < left.length := by omega
      have hpx : 0 ≤ ps.getD (1 + i) 0 := by
        refine hp0 _ ?_
        rw [List.getD_eq_getElem?_getD, List.getElem?_eq_getElem (by omega)]
        exact List.getElem_mem _
      generalize hk : (ps.getD (1 + i) 0 % (left.length : Int)).toNat = k
      have hk2 : ((k : Nat) : Int) = ps.getD (1 + i) 0 % (left.length : Int) := by
        have := Int.emod_nonneg (ps.getD (1 + i) 0) (b := (left.length : Int)) (by omega)
        omega
      have hkl : k < left.length := by
        have := Int.emod_lt_of_pos (ps.getD (1 + i) 0) (b := (left.length : Int)) (by omega)
        omega
      have hL : SqL K (upd (upd H m (.lst (left.map V.int))) p (.lst (ds.map V.int))) m (left.map V.int) := sq_of (by rw [upd_ne hpm.symm]; exact upd_same)
      have hP : SqL K (upd (upd H m (.lst (left.map V.int))) p (.lst (ds.map V.int))) l (ps.map V.int) := ex_l ((Ex.new hm).trans (Ex.new (by rw [upd_ne hpm]; exact hpH))) hS
      have hixe : ((1 + i : Nat) : Int) = 1 + (i : Int) := by omega
      refine a_appPop1 (k := k) (y := .int left[k]) e3 (ev_var rfl) upd_same (ev_var rfl) (by rw [upd_ne hpm.symm]; exact upd_same) hpm ?_ ?_ ?_ ?_ (fun H4 e4 => ?_)
      · refine ev_is (ev_op (ev_int1 (ev_op (ev_var rfl) (ev_op ev_c (ev_var rfl) rv_I0) (rv_ixL hP (by rw [← hixe]; exact at_map (by omega))))) (ev_lenS (ev_var rfl) hL) (rv_I (by rw [List.length_map]; omega))) ?_
        rw [List.length_map, hk2]
      · rw [List.getElem?_map, List.getElem?_eq_getElem hkl]
        rfl
      · rw [List.length_map]; omega
      · rw [List.length_map]; omega
      · have hperm : (left.eraseIdx k ++ (ds ++ [left[k]])).Perm (left ++ ds) := by
          have h1 : (left[k] :: left.eraseIdx k).Perm left := perm_erase left k hkl
          have h2 : (left.eraseIdx k ++ (ds ++ [left[k]])).Perm ((left[k] :: left.eraseIdx k) ++ ds) := by
            have h3 : (left.eraseIdx k ++ (ds ++ [left[k]])) = (left.eraseIdx k ++ ds) ++ [left[k]] := (List.append_assoc _ _ _).symm
            rw [h3]
            exact List.perm_append_singleton _ _
          exact h2.trans (h1.append_right ds)
        refine ⟨_, left.eraseIdx k, ds ++ [left[k]], rfl, by rw [List.length_append, hl]; rfl, by rw [List.length_eraseIdx_of_lt hkl]; omega, (hperm.nodup_iff).mpr hnd, fun d hd => hrg d (hperm.mem_iff.mp hd), ?_⟩
        rw [map_erase] at e4
        rw [List.map_append]
        intro b o hb
        refine e4 b o ?_
        by_cases b1 : b = p
        · subst b1
          rw [upd_same] at hb ⊢
          exact hb
        · rw [upd_ne b1] at hb ⊢
          by_cases b2 : b = m
          · subst b2
            rw [upd_same] at hb ⊢
            exact hb
          · rw [upd_ne b2] at hb ⊢
            rw [upd_ne b1, upd_ne b2]
            exact hb
    · rintro σ' H' ⟨y, left, ds, rfl, hl, hlen, hnd, hrg, e3⟩
      refine a_retU e3 (eu_tupL (ev_var rfl) (sq_of upd_same)) (fun r H4 hr4 e4 h4 => ?_)
      refine q ds ⟨fun d hd => hrg d (List.mem_append_right _ hd), (List.nodup_append.mp hnd).2.1⟩ (by omega) r H4 ?_ ?_ h4
      · by_cases b1 : r = p
        · rw [b1]; exact hpH
        · by_cases b2 : r = m
          · rw [b2]; exact hm
          · rw [upd_ne b1, upd_ne b2] at hr4
            exact hr4
      · exact ((Ex.new hm).trans (Ex.new (by rw [upd_ne hpm]; exact hpH))).trans e4

/-- parts = _law_parts(e, [sizes]) -/
theorem en_parts {σ : L2.St} {G : Hp} {ta tb : TE} {E : XK} {c : Int} {sizes : List Int} (h1 : Ev ta σ G (.int c)) (h2 : ∀ H1, Ex G H1 → EvL tb σ H1 (sizes.map V.int)) (hl : sizes.length ≤ 1000) (hp : ∀ s ∈ sizes, 0 < s ∧ s ≤ 1000000000) :
    EvN (tCall (sp_law_parts K) [] E (tCons ta (tCons tb tNil))) σ G (fun xs => ∃ ns, xs = ns.map V.int ∧ Draw ns sizes) :=
  en_callL h1 h2 fun p H1 _ hp1 Q q E => ⟨c, p, sizes, rfl, sq_of hp1, hl, hp, fun ns hd r H2 hr e2 h2 => q _ r H2 ⟨ns, rfl, hd⟩ hr e2 h2⟩
def spLaw (K : PySem.W.Frag) : Sp := fun vs H Q _ => ∃ (a : Addr) (ns : List Int), vs = [.ref a] ∧ SqL K H a (ns.map V.int) ∧ ns.length ≤ 63 ∧ ∀ H', Q (.bl true) H'

structure WFD (C : CircD) : Prop where
  nd : ∀ c ∈ C.cells, c.ins.Nodup
  o1 : 1 ≤ C.outs.length
  o6 : C.outs.length ≤ 6
  la : ∀ x ∈ C.lats, 0 ≤ x ∧ x < 4
  ln : C.lats.Nodup
def sp_law_circuit (K : PySem.W.Frag) : Sp := fun vs H Q _ => ∃ (l : Addr) (ns : List Int) (m : Int), vs = [.ref l, .int m] ∧ SqL K H l (ns.map V.int) ∧ ns.length ≤ 63 ∧ 1 ≤ m ∧ m ≤ 40 ∧ ∀ C p H2, WFC C → WFD C → Ex H H2 → CircAt K H2 p C → Q (.ref p) H2
/-- the cells so far -/
structure Cells (n total : Int) (cs : List CellD) : Prop where
  kind : ∀ (i : Nat) c, cs[i]? = some c → KC c.kind c.ins.length ∧ c.out = n + (i : Int) ∧ (∀ x ∈ c.ins, 0 ≤ x ∧ x < total) ∧ (c.kind ≠ "latch" → ∀ x ∈ c.ins, x < n + (i : Int)) ∧ c.ins.Nodup
theorem cells_more {n total : Int} {cs : List CellD} {c : CellD} (h : Cells n total cs) (hc : KC c.kind c.ins.length ∧ c.out = n + (cs.length : Int) ∧ (∀ x ∈ c.ins, 0 ≤ x ∧ x < total) ∧ (c.kind ≠ "latch" → ∀ x ∈ c.ins, x < n + (cs.length : Int)) ∧ c.ins.Nodup) : Cells n total (cs ++ [c]) := ⟨fun i d hd => by
  by_cases hi : i < cs.length
  · rw [List.getElem?_append_left hi] at hd
    exact h.kind i d hd
  · have hi2 : i = cs.length := by
      have := (List.getElem?_eq_some_iff.mp hd).1
      rw [List.length_append, List.length_singleton] at this
      omega
    subst hi2
    rw [List.getElem?_append_right (Nat.le_refl _), Nat.sub_self] at hd
    obtain rfl := Option.some.inj hd
    exact hc⟩
theorem numLat_app {cs : List CellD} {c : CellD} : numLat (cs ++ [c]) = numLat cs + (if c.kind = "latch" then 1 else 0) := by
  unfold numLat
  rw [List.filter_append, List.length_append]
  by_cases h : c.kind = "latch"
  · rw [if_pos h]; simp [h]
  · rw [if_neg h]; simp [h]
theorem all_more {K : PySem.W.Frag} {H : Hp} {vs : List V} {cs : List CellD} {v : V} {c : CellD} (h : AllAt (CellAt K H) vs cs) (hc : CellAt K H v c) : AllAt (CellAt K H) (vs ++ [v]) (cs ++ [c]) := ⟨by rw [List.length_append, List.length_append, h.1]; rfl, fun i w d hw hd => by
  by_cases hi : i < cs.length
  · rw [List.getElem?_append_left hi] at hd
    rw [List.getElem?_append_left (by rw [h.1]; exact hi)] at hw
    exact h.2 i w d hw hd
  · have hi2 : i = cs.length := by
      have := (List.getElem?_eq_some_iff.mp hd).1
      rw [List.length_append, List.length_singleton] at this
      omega
    subst hi2
    rw [List.getElem?_append_right (Nat.le_refl _), Nat.sub_self] at hd
    rw [List.getElem?_append_right (by rw [h.1]; exact Nat.le_refl _), h.1, Nat.sub_self] at hw
    obtain rfl := Option.some.inj hd
    obtain rfl := Option.some.inj hw
    exact hc⟩
theorem cell_upd {K : PySem.W.Frag} {H : Hp} {l : Addr} {ys : List V} {o : HO} {v : V} {c : CellD} (h : CellAt K H v c) (hl : H l = some (.lst ys)) : CellAt K (upd H l o) v c := by
  obtain ⟨p, q, a, b, d⟩ := h
  exact ⟨p, q, a, st_upd b hl, st_upd d hl⟩
theorem kc_last {k : Str} {m : Nat} (h : KC k m) (h1 : k ≠ "latch") (h2 : inV (.str k) [.str "tie0", .str "tie1"] = false) (h3 : k ≠ "not") : atI k.cps.toList (-1) = some (48 + m) ∧ PySem.intText? ⟨#[48 + m]⟩ = some (m : Int) ∧ 2 ≤ m ∧ m ≤ 3 ∧ k.length ≤ 100000 := by
  cases h <;> first
    | exact ⟨by decide +kernel, by decide +kernel, by decide, by decide, by decide +kernel⟩
    | (exfalso; revert h2; decide +kernel)
    | exact absurd rfl h1
    | exact absurd rfl h3
theorem kc_tie {k : Str} {m : Nat} (h : KC k m) (h2 : inV (.str k) [.str "tie0", .str "tie1"] = true) : m = 0 := by
  cases h <;> first | rfl | (exfalso; revert h2; decide +kernel)
theorem kc_not {k : Str} {m : Nat} (h : KC k m) (e : k = "not") : m = 1 := by
  cases h <;> first | rfl | (exfalso; revert e; decide +kernel)
def CellP (K : PySem.W.Frag) (k : Str) (o n c : Int) : V → Hp → Prop := fun w H => ∃ ds, CellAt K H w ⟨k, ds, o⟩ ∧ Drawn ds n ∧ (ds.length : Int) = c
/-- (kind, the drawn nets, net) -/
theorem ep_cellT {σ : L2.St} {G : Hp} {ta tb tc : TE} {k : Str} {n o : Int} {c : Int} (h1 : Ev ta σ G (.str k)) (h2 : EvP tb σ G (fun w H => ∃ q ds, w = .ref q ∧ H q = some (.tup (ds.map V.int)) ∧ Drawn ds n ∧ (ds.length : Int) = c)) (h3 : Ev tc σ G (.int o)) :
    EvP (tTup (tCons ta (tCons tb (tCons tc tNil)))) σ G (CellP K k o n c) := fun H1 e Q q =>
  ep_tup (n := 3) (eap_cons (ep_of h1) mono_v (eap_cons h2 (fun _ _ _ e ⟨q, ds, a, b, d⟩ => ⟨q, ds, a, e _ _ b, d⟩) (eap_cons (ep_of h3) mono_v eap_nil))) (mono_cons mono_v (mono_cons (fun _ _ _ e ⟨q, ds, a, b, d⟩ => ⟨q, ds, a, e _ _ b, d⟩) (mono_cons mono_v mono_nil))) (len_cons (len_cons (len_cons len_nil))) (by decide) H1 e Q fun v H2 e2 h => by
    obtain ⟨p, vs, rfl, hp, v1, r1, rfl, rfl, v2, r2, rfl, ⟨qq, ds, rfl, hq, hd, hl⟩, v3, r3, rfl, rfl, hn⟩ := h
    rw [hn] at hp
    exact q _ H2 e2 ⟨ds, ⟨p, qq, rfl, st_of hp, st_of hq⟩, hd, hl⟩
theorem circ_turn {K : PySem.W.Frag} {G0 H1 : Hp} {p : Addr} {n cnt t : Int} {i c : Nat} {k : Str} {v : V} {vs : List V} {cs : List CellD} (hl : cs.length = i) (hi : n + (i : Int) < n + cnt) (hC : Cells n (n + cnt) cs) (hN : numLat cs ≤ 4) (hA : AllAt (CellAt K H1) vs cs) (hP : H1 p = some (.lst vs)) (x : Ex G0 H1) (hp : G0 p = none) (kc : KC k c) (k4 : k = "latch" → numLat cs ≠ 4)
    (hc : ∃ ds, CellAt K H1 v ⟨k, ds, n + (i : Int)⟩ ∧ Drawn ds t ∧ (ds.length : Int) = c) (t1 : k = "latch" → t = n + cnt) (t2 : k ≠ "latch" → t = n + (i : Int)) :
    ∃ cs', cs'.length = i + 1 ∧ numLat cs' = numLat cs + (if k = "latch" then 1 else 0) ∧ Cells n (n + cnt) cs' ∧ numLat cs' ≤ 4 ∧ AllAt (CellAt K (upd H1 p (.lst (vs ++ [v])))) (vs ++ [v]) cs' ∧ (upd H1 p (.lst (vs ++ [v]))) p = some (.lst (vs ++ [v])) ∧ Ex G0 (upd H1 p (.lst (vs ++ [v]))) := by
  obtain ⟨ds, h1, h2, h3⟩ := hc
  have ht : t ≤ n + cnt := by
    by_cases hk : k = "latch"
    · rw [t1 hk]; omega
    · rw [t2 hk]; omega
  have hd : (ds.length : Nat) = c := by omega
  refine ⟨cs ++ [⟨k, ds, n + (i : Int)⟩], by rw [List.length_append, hl]; rfl, numLat_app, cells_more hC ⟨by show KC k ds.length; rw [hd]; exact kc, by rw [hl], fun x hx => ⟨(h2.rg x hx).1, by have := (h2.rg x hx).2; omega⟩, fun hk x hx => by have := (h2.rg x hx).2; rw [t2 hk] at this; rw [hl]; exact this, h2.nd⟩, ?_, all_more ⟨hA.1, fun j w d a b => cell_upd (hA.2 j w d a b) hP⟩ (cell_upd h1 hP), upd_same, Ex.mut x hp⟩
  rw [numLat_app]
  show numLat cs + (if k = "latch" then 1 else 0) ≤ 4
  by_cases hk : k = "latch"
  · rw [if_pos hk]; have := k4 hk; omega
  · rw [if_neg hk]; omega
theorem ok_law_circuit (T : Top K mg w a) : FnOk P w K mg base CX0 2 a.f_law_circuit a.d_law_circuit ["script", "most"] (sp_law_circuit K) := by
  refine T.F_law_circuit.ok sc_law_circuit (fun vs H Q E h => ?_) (fun cdv A outer s H vs Q E hr h => ?_)
  · obtain ⟨l, ns, m, rfl, _⟩ := h
    rfl
  · obtain ⟨l, ns, m, rfl, hS, hns, hm1, hm40, q⟩ := h
    refine ⟨_, (pss_cons (ps_set (i := 2) sc_law_circuit.nd rfl (Or.inr rfl) (pe_call (ok_law_parts T) (hr.mono (by decide)) (by rfl) T.g_law_parts T.F_law_parts.kp T.b_law_parts .nil pass0 (pa_cons (pe_call (ok_law_cell T) (hr.mono (by decide)) (by rfl) T.g_law_cell T.F_law_cell.kp T.b_law_cell .nil pass0 (pa_cons (pv 0) (pa_cons pe_int pa_nil))) (pa_cons (pe_lst (pa_cons pe_int (pa_cons pe_int (pa_cons pe_int (pa_cons pe_int pa_nil))))) pa_nil))))
      (pss_cons (ps_set (i := 3) sc_law_circuit.nd rfl (Or.inl rfl) (pe_lst pa_nil))
      (pss_cons (ps_set (i := 4) sc_law_circuit.nd rfl (Or.inl rfl) pe_int)
      (pss_cons (ps_set (i := 5) sc_law_circuit.nd rfl (Or.inr rfl) (pe_op op_add (pe_ix ix_list (pv 2) pe_int (fun _ _ => rfl)) (pe_callB (call_min2 rfl) (by rfl) T.z_min (by decide +kernel) (pa_cons (pv 1) (pa_cons (pe_callB (call_max2 rfl) (by rfl) T.z_max (by decide +kernel) (pa_cons pe_int (pa_cons (pe_op op_sub (pe_callB call_len_seq (by rfl) T.z_len (by decide +kernel) (pa_cons (pv 0) pa_nil)) pe_int) pa_nil))) pa_nil)))))
      (pss_cons (ps_for PassesOwn.never rfl (pi_range2 rfl T.z_range (pa_cons (pe_ix ix_list (pv 2) pe_int (fun _ _ => rfl)) (pa_cons (pv 5) pa_nil))) (pg_name (i := 6) sc_law_circuit.nd rfl (Or.inl rfl))
      (pss_cons (ps_set (i := 7) sc_law_circuit.nd rfl (Or.inl rfl) (pe_call (ok_law_parts T) (hr.mono (by decide)) (by rfl) T.g_law_parts T.F_law_parts.kp T.b_law_parts .nil pass0 (pa_cons (pe_call (ok_law_cell T) (hr.mono (by decide)) (by rfl) T.g_law_cell T.F_law_cell.kp T.b_law_cell .nil pass0 (pa_cons (pv 0) (pa_cons (pe_op op_sub (pe_op op_add pe_int (pv 6)) (pe_ix ix_list (pv 2) pe_int (fun _ _ => rfl))) pa_nil))) (pa_cons (pe_lst (pa_cons pe_int (pa_cons pe_int (pa_cons pe_int (pa_cons pe_int pa_nil))))) pa_nil))))
      (pss_cons (ps_set (i := 8) sc_law_circuit.nd rfl (Or.inl rfl) (pe_call (ok_law_kind T) (hr.mono (by decide)) (by rfl) T.g_law_kind T.F_law_kind.kp T.b_law_kind .nil pass0 (pa_cons (pv 7) (pa_cons (pv 6) (pa_cons (pv 4) pa_nil)))))
      (pss_one (ps_if (pt_cmpR op_eq (pv 8) pe_str (nomark _))
      (pss_cons (ps_set (i := 4) sc_law_circuit.nd rfl (Or.inl rfl) (pe_op op_add (pv 4) pe_int))
      (pss_one (ps_expr (pe_bm PySem.F.plainAttrs_list PySem.F.slot_list_append PySem.F.type_list_append mt_append (pv 3) (pa_cons (pe_tup (pa_cons (pv 8) (pa_cons (pe_call (ok_law_drawn T) (hr.mono (by decide)) (by rfl) T.g_law_drawn T.F_law_drawn.kp T.b_law_drawn .nil pass0 (pa_cons (pv 7) (pa_cons pe_int (pa_cons (pv 5) pa_nil)))) (pa_cons (pv 6) pa_nil)))) pa_nil)))))
      (pss_one (ps_if (pt_cmpR op_in_seq (pv 8) (pe_lst (pa_cons pe_str (pa_cons pe_str pa_nil))) (by rfl))
      (pss_one (ps_expr (pe_bm PySem.F.plainAttrs_list PySem.F.slot_list_append PySem.F.type_list_append mt_append (pv 3) (pa_cons (pe_tup (pa_cons (pv 8) (pa_cons (pe_tup pa_nil) (pa_cons (pv 6) pa_nil)))) pa_nil))))
      (pss_one (ps_if (pt_cmpR op_eq (pv 8) pe_str (nomark _))
      (pss_one (ps_expr (pe_bm PySem.F.plainAttrs_list PySem.F.slot_list_append PySem.F.type_list_append mt_append (pv 3) (pa_cons (pe_tup (pa_cons (pv 8) (pa_cons (pe_call (ok_law_drawn T) (hr.mono (by decide)) (by rfl) T.g_law_drawn T.F_law_drawn.kp T.b_law_drawn .nil pass0 (pa_cons (pv 7) (pa_cons pe_int (pa_cons (pv 6) pa_nil)))) (pa_cons (pv 6) pa_nil)))) pa_nil))))
      (pss_one (ps_expr (pe_bm PySem.F.plainAttrs_list PySem.F.slot_list_append PySem.F.type_list_append mt_append (pv 3) (pa_cons (pe_tup (pa_cons (pv 8) (pa_cons (pe_call (ok_law_drawn T) (hr.mono (by decide)) (by rfl) T.g_law_drawn T.F_law_drawn.kp T.b_law_drawn .nil pass0 (pa_cons (pv 7) (pa_cons (pe_callTy call_int_str (by rfl) T.z_int (by decide +kernel) (pa_cons (pe_ix ix_str (pv 8) (pe_un un_neg pe_int) (fun _ _ => rfl)) pa_nil)) (pa_cons (pv 6) pa_nil)))) (pa_cons (pv 6) pa_nil)))) pa_nil)))))))))))))
      (pss_cons (ps_set (i := 9) sc_law_circuit.nd rfl (Or.inl rfl) (pe_callTy call_tuple_of (by rfl) T.z_tuple (by decide +kernel) (pa_cons (pe_lc (own := [("k", 10)]) (by rfl) sc_law_circuit.nd (pi_range1 rfl T.z_range (pa_cons (pe_op op_add pe_int (pe_ix ix_list (pv 2) pe_int (fun _ _ => rfl))) pa_nil)) (blkOk_by (own := [("k", 10)]) (N := ["script", "most", "head", "cells", "latches", "total", "net", "parts", "kind", "outputs", "k"]) (sc := defScope s_law_circuit) (by decide +kernel)) (fun _ _ _ _ _ => (pg_name (i := 10) sc_law_circuit.nd rfl (Or.inl rfl) (hf := .inr rfl))) (fun _ _ _ _ _ => pts_nil) (fun _ _ _ _ _ => (pe_op op_mod (pe_callTy call_int1 (by rfl) T.z_int (by decide +kernel) (pa_cons (pe_op op_add (pe_ix (ixK (r := rIxL) (K := K) ix_list rfl) (pv 2) pe_int (fun _ _ => rfl)) (pe_op op_mul (pv 10) (pe_ix (ixK (r := rIxL) (K := K) ix_list rfl) (pv 2) pe_int (fun _ _ => rfl)))) pa_nil)) (pv 5)))) pa_nil)))
      (pss_one (ps_ret (pe_tup (pa_cons (pe_ix ix_list (pv 2) pe_int (fun _ _ => rfl)) (pa_cons (pe_callTy call_tuple_of (by rfl) T.z_tuple (by decide +kernel) (pa_cons (pv 3) pa_nil)) (pa_cons (pv 9) (pa_cons (pe_callTy call_tuple_of (by rfl) T.z_tuple (by decide +kernel) (pa_cons (pe_lc (own := [("k", 10)]) (by rfl) sc_law_circuit.nd (pi_range1 rfl T.z_range (pa_cons (pv 4) pa_nil)) (blkOk_by (own := [("k", 10)]) (N := ["script", "most", "head", "cells", "latches", "total", "net", "parts", "kind", "outputs", "k"]) (sc := defScope s_law_circuit) (by decide +kernel)) (fun _ _ _ _ _ => (pg_name (i := 10) sc_law_circuit.nd rfl (Or.inl rfl) (hf := .inr rfl))) (fun _ _ _ _ _ => pts_nil) (fun _ _ _ _ _ => (pe_op op_mod (pe_callTy call_int1 (by rfl) T.z_int (by decide +kernel) (pa_cons (pe_op op_add (pe_ix (ixK (r := rIxL) (K := K) ix_list rfl) (pv 2) pe_int (fun _ _ => rfl)) (pv 10)) pa_nil)) pe_int))) pa_nil)) pa_nil))))))))))))), ?_⟩
    have cellv : ∀ {σ : L2.St} {G : Hp} {E : XK} {ta tb : TE} {j : Nat}, Ex H G → Ev ta σ G (.ref l) → Ev tb σ G (.int (j : Int)) → Ev (tCall (sp_law_cell K) [] E (tCons ta (tCons tb tNil))) σ G (.int (cellOf ns j)) := fun e h1 h2 => ev_call1 (ea_cons h1 (ea_cons h2 ea_nil)) fun H1 x1 Q hq E => ⟨l, ns, _, rfl, ex_l (e.trans x1) hS, hq⟩
    refine a_setN (Ex.refl H) (en_parts (sizes := [7, 6, 100, 100]) (cellv (j := 0) (Ex.refl H) (ev_var rfl) ev_c) (fun H1 _ => el_lst (ea_cons ev_c (ea_cons ev_c (ea_cons ev_c (ea_cons ev_c ea_nil)))) (by decide)) (by decide) (by decide)) (fun xs hh H1 hP hhn e1 => ?_)
    obtain ⟨hd, rfl, hdr⟩ := hP
    have hdl : hd.length = 4 := hdr.len
    have d0 : 0 ≤ hd.getD 0 0 ∧ hd.getD 0 0 < 7 := hdr.at_ 0 (by decide)
    have d1 : 0 ≤ hd.getD 1 0 ∧ hd.getD 1 0 < 6 := hdr.at_ 1 (by decide)
    have d2 : 0 ≤ hd.getD 2 0 ∧ hd.getD 2 0 < 100 := hdr.at_ 2 (by decide)
    have d3 : 0 ≤ hd.getD 3 0 ∧ hd.getD 3 0 < 100 := hdr.at_ 3 (by decide)
    have hHd : SqL K (upd H hh (.lst (hd.map V.int))) hh (hd.map V.int) := sq_of upd_same
    have xH : Ex H (upd H hh (.lst (hd.map V.int))) := Ex.new hhn
    generalize upd H hh (.lst (hd.map V.int)) = G0 at e1 hHd xH
    have hdat : ∀ {σ : L2.St} {G : Hp} {ta : TE} (k : Nat), k < 4 → Ex G0 G → Ev ta σ G (.ref hh) → Ev (tOp (rIxL K) ta (tC (.int (k : Int)))) σ G (.int (hd.getD k 0)) := fun k hk e h => ev_op h ev_c (rv_ixL (ex_l e hHd) (at_map (by omega)))
    refine a_setL e1 (el_lst ea_nil (by decide)) (fun p H2 hp e2 => ?_)
    refine a_set e2 ev_c (fun H3 e3 => ?_)
    obtain ⟨cnt, hcnt, hc1, hc2⟩ : ∃ cnt : Int, (if (if (ns.length : Int) - 3 > 1 then (ns.length : Int) - 3 else 1) < m then (if (ns.length : Int) - 3 > 1 then (ns.length : Int) - 3 else 1) else m) = cnt ∧ 1 ≤ cnt ∧ cnt ≤ 40 := ⟨_, rfl, by split <;> (try split) <;> omega, by split <;> (try split) <;> omega⟩
    have xp : Ex G0 (upd G0 p (.lst [])) := Ex.new hp
    refine a_set e3 (v := .int (hd.getD 0 0 + cnt)) (ev_op (hdat 0 (by decide) xp (ev_var rfl)) (ev_is (ev_min2 (ev_var rfl) (ev_max2' ev_c (ev_op (ev_is (ev_lenS (ev_var rfl) (ex_l (xH.trans xp) hS)) (by rw [List.length_map])) ev_c rv_I0))) (by rw [hcnt])) rv_I0) (fun H4 e4 => ?_)
    have hp4 : H4 p = some (.lst []) := e4 p _ upd_same
    have x4 : Ex G0 H4 := xp.trans e4
    generalize hn : hd.getD 0 0 = n at d0
    have hd0 : ∀ {σ : L2.St} {G : Hp} {ta : TE}, Ex G0 G → Ev ta σ G (.ref hh) → Ev (tOp (rIxL K) ta (tC (.int 0))) σ G (.int n) := fun e h => hn ▸ hdat 0 (by decide) e h
    refine a_forR2 (lo := n) (n := n + cnt) (G := H4) (Ex.refl H4) (ea_cons (hd0 x4 (ev_var rfl)) (ea_cons (ev_var rfl) ea_nil)) ⟨by omega, by omega, by omega, by omega⟩
      (fun i σ' H' => ∃ (y1 y2 y3 y4 : Option V) (vs : List V) (cs : List CellD), σ' = [some (.ref l), some (.int m), some (.ref hh), some (.ref p), some (.int (numLat cs : Nat)), some (.int (n + cnt)), y1, y2, y3, none, y4] ∧ cs.length = i ∧ Cells n (n + cnt) cs ∧ numLat cs ≤ 4 ∧ AllAt (CellAt K H') vs cs ∧ H' p = some (.lst vs) ∧ Ex G0 H')
      (fun H5 e5 => ⟨none, none, none, none, [], [], rfl, rfl, ⟨fun i c h => by cases h⟩, Nat.zero_le _, ⟨rfl, fun i v c h => by cases h⟩, e5 _ _ hp4, x4.trans e5⟩) ?_ ?_
    · rintro i σ' H' hi ⟨y1, y2, y3, y4, vs, cs, rfl, hl, hC, hN, hA, hP, e5⟩
      have hoi : n + (i : Int) = n + (cs.length : Int) := by omega
      refine a_setN (Ex.refl H') (en_parts (sizes := [16, 100, 100, 100]) (cellv (j := 3 + i) (xH.trans e5) (ev_var rfl) (ev_is (ev_op (ev_op ev_c (ev_var rfl) rv_I0) (hd0 e5 (ev_var rfl)) rv_I0) (by congr 1; omega))) (fun H1 _ => el_lst (ea_cons ev_c (ea_cons ev_c (ea_cons ev_c (ea_cons ev_c ea_nil)))) (by decide)) (by decide) (by decide)) (fun xs r H6 hPr hr6 e6 => ?_)
      obtain ⟨ps, rfl, hdp⟩ := hPr
      have hpl : ps.length = 4 := hdp.len
      have p0 : 0 ≤ ps.getD 0 0 ∧ ps.getD 0 0 < 16 := hdp.at_ 0 (by decide)
      have p1 : 0 ≤ ps.getD 1 0 ∧ ps.getD 1 0 < 100 := hdp.at_ 1 (by decide)
      have ppos : ∀ x ∈ ps, 0 ≤ x := fun x hx => by
        obtain ⟨k, hk, e⟩ := List.mem_iff_getElem.mp hx
        have := (hdp.at_ k (by show k < 4; omega)).1
        rw [List.getD_eq_getElem?_getD, List.getElem?_eq_getElem hk] at this
        rw [← e]
        exact this
      have hPs : SqL K H6 r (ps.map V.int) := ex_l e6 (sq_of upd_same)
      have x6 : Ex H' H6 := (Ex.new hr6).trans e6
      refine a_setV (Ex.refl H6) (P := fun v => ∃ k m, v = .str k ∧ KC k m ∧ (k = "latch" → numLat cs ≠ 4) ∧ (k ≠ "latch" → (m : Int) ≤ n + (i : Int))) (ew_call (ea_cons (ev_var rfl) (ea_cons (ev_var rfl) (ea_cons (ev_var rfl) ea_nil))) fun H1 x1 Q q E => ⟨r, ps, n + (i : Int), (numLat cs : Nat), rfl, ex_l x1 hPs, by omega, p0.1, p0.2, p1.1, by omega, by omega, fun k m hk hl hm H2 e2 => q _ H2 ⟨k, m, rfl, hk, fun h h4 => hl h (by rw [h4]; rfl), hm⟩ e2⟩) (fun v H7 hv e7 => ?_)
      obtain ⟨k, mm, rfl, kc, kl4, kmn⟩ := hv
      have hP7 : H7 p = some (.lst vs) := e7 _ _ (x6 _ _ hP)
      have hPs7 := ex_l e7 hPs
      have hA7 : AllAt (CellAt K H7) vs cs := ⟨hA.1, fun i v c a b => cell_mono (x6.trans e7) (hA.2 i v c a b)⟩
      have x7 : Ex G0 H7 := (e5.trans x6).trans e7
      have dr : ∀ {σ : L2.St} {E : XK} {ta tb tc : TE} {c t : Int} {H1 : Hp}, Ex H7 H1 → 0 ≤ c → c ≤ 3 → c ≤ t → t ≤ 1000 → Ev ta σ H1 (.ref r) → Ev tb σ H1 (.int c) → Ev tc σ H1 (.int t) → EvP (tCall (sp_law_drawn K) [] E (tCons ta (tCons tb (tCons tc tNil)))) σ H1 (fun w H => ∃ q ds, w = .ref q ∧ H q = some (.tup (ds.map V.int)) ∧ Drawn ds t ∧ (ds.length : Int) = c) := fun e c0 c3 ct tb h1 h2 h3 =>
        ep_call (ea_cons h1 (ea_cons h2 (ea_cons h3 ea_nil))) fun H2 x2 Q q E => ⟨r, ps, _, _, rfl, ex_l (e.trans x2) hPs7, by omega, ppos, c0, c3, ct, tb, fun ds hd hdl p H3 hp e3 h3 => q _ H3 e3 ⟨p, ds, rfl, h3, hd, hdl⟩⟩
      have hz : vs.length < 100000 := by rw [hA.1]; omega
      have hi' : n + (i : Int) < n + cnt := hi
      have done : ∀ {σ'' : L2.St} {v : V} {H1 : Hp} {c : Nat} {t : Int} {b : Int}, Ex H7 H1 → KC k c → (∃ ds, CellAt K H1 v ⟨k, ds, n + (i : Int)⟩ ∧ Drawn ds t ∧ (ds.length : Int) = c) → (k = "latch" → t = n + cnt) → (k ≠ "latch" → t = n + (i : Int)) → b = ((numLat cs + (if k = "latch" then 1 else 0) : Nat) : Int) →
          σ'' = [some (.ref l), some (.int m), some (.ref hh), some (.ref p), some (.int b), some (.int (n + cnt)), some (.int (n + (i : Int))), some (.ref r), some (.str k), none, y4] →
          ∃ (y1 y2 y3 y4 : Option V) (vs' : List V) (cs : List CellD), σ'' = [some (.ref l), some (.int m), some (.ref hh), some (.ref p), some (.int (numLat cs : Nat)), some (.int (n + cnt)), y1, y2, y3, none, y4] ∧ cs.length = i + 1 ∧ Cells n (n + cnt) cs ∧ numLat cs ≤ 4 ∧ AllAt (CellAt K (upd H1 p (.lst (vs ++ [v])))) vs' cs ∧ (upd H1 p (.lst (vs ++ [v]))) p = some (.lst vs') ∧ Ex G0 (upd H1 p (.lst (vs ++ [v]))) := by
        intro σ'' v H1 c t b x hkc hce t1 t2 hb hσ
        obtain ⟨cs', c1, c2, c3, c4, c5, c6, c7⟩ := circ_turn hl hi' hC hN ⟨hA7.1, fun j w d a b => cell_mono x (hA7.2 j w d a b)⟩ (x _ _ hP7) (x7.trans x) hp hkc kl4 hce t1 t2
        exact ⟨_, _, _, _, vs ++ [v], cs', by rw [hσ, hb, c2], c1, c3, c4, c5, c6, c7⟩
      refine a_if (Ex.refl H7) (et_test (ev_op (ev_var rfl) ev_c (rv_eq rfl))) (fun hb H8 e8 => ?_) (fun hb H8 e8 => ?_)
      · rw [dec_str] at hb
        have hk := of_decide_eq_true hb
        have m1 := kc_latch kc hk
        subst m1
        refine a_set e8 (ev_op (ev_var rfl) ev_c rv_I0) (fun H9 e9 => ?_)
        refine a_appP1 (P := CellP K k (n + (i : Int)) (n + cnt) ((1 : Nat) : Int)) e9 (ev_var rfl) hP7 (ep_cellT (ev_var rfl) (dr (Ex.refl _) (by decide) (by decide) (by omega) (by omega) (ev_var rfl) ev_c (ev_var rfl)) (ev_var rfl)) hz (fun v H10 e10 hv => ?_)
        exact done e10 kc hv (fun _ => rfl) (fun h => absurd hk h) (by rw [if_pos hk]; omega) rfl
      rw [dec_str] at hb
      have hk := of_decide_eq_false hb
      have hmn := kmn hk
      refine a_if e8 (et_test (ev_inNL (ev_var rfl) (el_lst (ea_cons ev_c (ea_cons ev_c ea_nil)) (by decide)) rfl rfl)) (fun hb2 H9 e9 => ?_) (fun hb2 H9 e9 => ?_)
      · have m0 := kc_tie kc hb2
        subst m0
        refine a_appP1 (P := CellP K k (n + (i : Int)) (n + (i : Int)) ((0 : Nat) : Int)) e9 (ev_var rfl) hP7 (ep_cellT (ev_var rfl) (fun H1 x1 Q q => ep_U (eu_tup ea_nil (by decide)) H1 x1 Q fun w H2 e2 ⟨q2, a, b⟩ => q w H2 e2 ⟨q2, [], a, b, ⟨fun _ h => absurd h List.not_mem_nil, List.nodup_nil⟩, rfl⟩) (ev_var rfl)) hz (fun v H10 e10 hv => ?_)
        exact done e10 kc hv (fun h => absurd h hk) (fun _ => rfl) (by rw [if_neg hk]; rfl) rfl
      refine a_if e9 (et_test (ev_op (ev_var rfl) ev_c (rv_eq rfl))) (fun hb3 H10 e10 => ?_) (fun hb3 H10 e10 => ?_)
      · rw [dec_str] at hb3
        have m1 := kc_not kc (of_decide_eq_true hb3)
        subst m1
        refine a_appP1 (P := CellP K k (n + (i : Int)) (n + (i : Int)) ((1 : Nat) : Int)) e10 (ev_var rfl) hP7 (ep_cellT (ev_var rfl) (dr (Ex.refl _) (by decide) (by decide) (by omega) (by omega) (ev_var rfl) ev_c (ev_var rfl)) (ev_var rfl)) hz (fun v H11 e11 hv => ?_)
        exact done e11 kc hv (fun h => absurd h hk) (fun _ => rfl) (by rw [if_neg hk]; rfl) rfl
      · rw [dec_str] at hb3
        obtain ⟨i1, i2, i3, i4, i5⟩ := kc_last kc hk hb2 (of_decide_eq_false hb3)
        refine a_appP1 (P := CellP K k (n + (i : Int)) (n + (i : Int)) (mm : Int)) e10 (ev_var rfl) hP7 (ep_cellT (ev_var rfl) (dr (Ex.refl _) (by omega) (by omega) (by omega) (by omega) (ev_var rfl) (ev_intS (ev_op (ev_var rfl) (ev_un ev_c ru_neg) (rv_ixS i5 i1)) i2 (by show 1 ≤ 640; decide)) (ev_var rfl)) (ev_var rfl)) hz (fun v H11 e11 hv => ?_)
        exact done e11 kc hv (fun h => absurd h hk) (fun _ => rfl) (by rw [if_neg hk]; rfl) rfl
    · rintro σ' H' ⟨y1, y2, y3, y4, vs, cs, rfl, hl, hC, hN, hA, hP, e5⟩
      have hlc : (cs.length : Int) = cnt := by omega
      have hH' : SqL K H' hh (hd.map V.int) := ex_l e5 hHd
      have hd2 : ∀ {σ : L2.St} {G : Hp} {ta : TE} (k : Nat), k < 4 → Ex H' G → Ev ta σ G (.ref hh) → Ev (tOp (rIxL K) ta (tC (.int (k : Int)))) σ G (.int (hd.getD k 0)) := fun k hk e h => hdat k hk (e5.trans e) h
      -- outputs
      have hq0 : 0 < n + cnt := by omega
      refine a_setU (G := H') (Ex.refl H') (eu_tupN (el_dR (n := 1 + hd.getD 1 0) (fun k => some (V.int ((hd.getD 2 0 + (k : Int) * hd.getD 3 0) % (n + cnt)))) (ea_cons (ev_op ev_c (hd2 1 (by decide) (Ex.refl _) (ev_var rfl)) rv_I0) ea_nil) ⟨by omega, by omega⟩ (fun k hk => turn_mapD rfl (ev_op (ev_int1 (ev_op (hd2 2 (by decide) (Ex.refl _) (ev_var rfl)) (ev_op (ev_var rfl) (hd2 3 (by decide) (Ex.refl _) (ev_var rfl)) (rv_I (.inl ⟨by omega, by omega⟩))) rv_I0)) (ev_var rfl) (rv_I hq0))))) (fun po H6 hpo e6 => ?_)
      rw [fm_map (fun k : Nat => V.int ((hd.getD 2 0 + (k : Int) * hd.getD 3 0) % (n + cnt)))] at e6
      generalize houts : (List.range (1 + hd.getD 1 0).toNat).map (fun k : Nat => (hd.getD 2 0 + (k : Int) * hd.getD 3 0) % (n + cnt)) = outs
      have hol : outs.length = (1 + hd.getD 1 0).toNat := by rw [← houts, List.length_map, List.length_range]
      have hom : ∀ x ∈ outs, 0 ≤ x ∧ x < n + cnt := fun x hx => by
        rw [← houts] at hx
        obtain ⟨k, _, rfl⟩ := List.mem_map.mp hx
        exact ⟨Int.emod_nonneg _ (by omega), Int.emod_lt_of_pos _ hq0⟩
      have eo : (List.range (1 + hd.getD 1 0).toNat).map (fun k : Nat => V.int ((hd.getD 2 0 + (k : Int) * hd.getD 3 0) % (n + cnt))) = outs.map V.int := by
        rw [← houts, List.map_map]
        rfl
      rw [eo] at e6
      have hpo6 : H6 po = some (.tup (outs.map V.int)) := e6 _ _ upd_same
      have x6 : Ex H' H6 := (Ex.new hpo).trans e6
      generalize hlats : (List.range (numLat cs)).map (fun k : Nat => (hd.getD 2 0 + (k : Int)) % 4) = lats
      have lm : ∀ x ∈ lats, 0 ≤ x ∧ x < 4 := fun x hx => by
        rw [← hlats] at hx
        obtain ⟨k, _, rfl⟩ := List.mem_map.mp hx
        exact ⟨Int.emod_nonneg _ (by decide), Int.emod_lt_of_pos _ (by decide)⟩
      have lnd : lats.Nodup := by
        rw [← hlats]
        refine List.pairwise_map.mpr (List.pairwise_iff_getElem.mpr fun i j hi hj hij => ?_)
        rw [List.getElem_range, List.getElem_range]
        rw [List.length_range] at hi hj
        omega
      have lle : lats.length = numLat cs := by rw [← hlats, List.length_map, List.length_range]
      have el : (List.range (numLat cs)).map (fun k : Nat => V.int ((hd.getD 2 0 + (k : Int)) % 4)) = lats.map V.int := by
        rw [← hlats, List.map_map]
        rfl
      have hP6 : H6 p = some (.lst vs) := x6 _ _ hP
      refine a_retP' (ep_tup (n := 4) (eap_cons (ep_of (v := .int n) (hd0 (e5.trans x6) (ev_var rfl))) mono_v (eap_cons (ep_U (eu_tupL (ev_var rfl) (sq_of hP6))) mono_U (eap_cons (ep_of (v := .ref po) (ev_var rfl)) mono_v (eap_cons (ep_U (xs := lats.map V.int) ?_) mono_U eap_nil)))) (mono_cons mono_v (mono_cons mono_U (mono_cons mono_v (mono_cons mono_U mono_nil)))) (len_cons (len_cons (len_cons (len_cons len_nil)))) (by decide)) (fun v H7 e7 hv => ?_)
      · rw [← el, ← fm_map (fun k : Nat => V.int ((hd.getD 2 0 + (k : Int)) % 4))]
        have e0 : (List.range (numLat cs)) = List.range ((numLat cs : Nat) : Int).toNat := by rw [Int.toNat_natCast]
        rw [e0]
        exact eu_tupN (el_dR (n := ((numLat cs : Nat) : Int)) (fun k => some (V.int ((hd.getD 2 0 + (k : Int)) % 4))) (ea_cons (ev_var rfl) ea_nil) ⟨by omega, by omega⟩ (fun k hk => turn_mapD rfl (ev_op (ev_int1 (ev_op (hd2 2 (by decide) x6 (ev_var rfl)) (ev_var rfl) rv_I0)) ev_c (rv_I (by decide)))))
      · obtain ⟨pr, ws, rfl, hpr, v1, r1, rfl, rfl, v2, r2, rfl, ⟨pc, rfl, hpc⟩, v3, r3, rfl, rfl, v4, r4, rfl, ⟨pl, rfl, hpl⟩, hnil⟩ := hv
        rw [hnil] at hpr
        refine q ⟨n, cs, outs, lats⟩ pr H7 ⟨d0.1, by show n ≤ 6; omega, by show cs.length ≤ 40; omega, fun i c hc => ?_, fun x hx => ?_, by show outs.length ≤ 10; omega, lle, by show lats.length ≤ 4; omega⟩ ⟨fun c hc => ?_, by show 1 ≤ outs.length; omega, by show outs.length ≤ 6; omega, lm, lnd⟩ ((xH.trans (e5.trans x6)).trans e7) ⟨pc, po, pl, vs, st_of hpr, st_of hpc, ⟨hA.1, fun j w d a b => cell_mono (x6.trans e7) (hA.2 j w d a b)⟩, st_of (e7 _ _ hpo6), st_of hpl⟩
        · obtain ⟨k1, k2, k3, k4, k5⟩ := hC.kind i c hc
          exact ⟨k1, k2, fun x hx => by
            have := k3 x hx
            show 0 ≤ x ∧ x < n + (cs.length : Int)
            omega, k4⟩
        · have := hom x hx
          show 0 ≤ x ∧ x < n + (cs.length : Int)
          omega
        · obtain ⟨i, hi, e⟩ := List.mem_iff_getElem.mp hc
          exact (hC.kind i c (by rw [List.getElem?_eq_getElem hi, e])).2.2.2.2

def sp_law_bare (K : PySem.W.Frag) : Sp := fun vs H Q _ => ∃ (l p : Addr) (ns : List Int) (C : CircD), vs = [.ref l, .ref p] ∧ SqL K H l (ns.map V.int) ∧ CircAt K H p C ∧ WFC C ∧ WFD C ∧ ∀ C p H2, WFC C → WFD C → Ex H H2 → CircAt K H2 p C → Q (.ref p) H2
theorem ok_law_bare (T : Top K mg w a) : FnOk P w K mg base CX0 2 a.f_law_bare a.d_law_bare ["script", "circuit"] (sp_law_bare K) := by
  refine T.F_law_bare.ok sc_law_bare (fun vs H Q E h => ?_) (fun cdv A outer s H vs Q E hr h => ?_)
  · obtain ⟨l, p, ns, C, rfl, _⟩ := h
    rfl
  · obtain ⟨l, p, ns, C, rfl, hS, hC, hW, hD, q⟩ := h
    have hC' := hC
    obtain ⟨pc, po, pl, vs, h1, h2, h3, h4, h5⟩ := hC
    refine ⟨_, (pss_cons (ps_if (PW.pt (pw_or (pt_cmpR op_eq (pe_ix ix_tup (pv 1) pe_int (fun _ _ => rfl)) pe_int (nomark _)) (pw_or1 (pt_cmpR op_ne (pe_op op_mod (pe_callTy call_int1 (by rfl) T.z_int (by decide +kernel) (pa_cons (pe_call (ok_law_cell T) (hr.mono (by decide)) (by rfl) T.g_law_cell T.F_law_cell.kp T.b_law_cell .nil pass0 (pa_cons (pv 0) (pa_cons pe_int pa_nil))) pa_nil)) pe_int) pe_int (nomark _)))))
      (pss_one (ps_ret (pv 1)))
      pss_nil)
      (pss_one (ps_ret (pe_tup (pa_cons (pe_ix ix_tup (pv 1) pe_int (fun _ _ => rfl)) (pa_cons (pe_tup pa_nil) (pa_cons (pe_callTy call_tuple_of (by rfl) T.z_tuple (by decide +kernel) (pa_cons (pe_lc (own := [("net", 2)]) (by rfl) sc_law_bare.nd (pi_tup (pe_ix ix_tup (pv 1) pe_int (fun _ _ => rfl))) (blkOk_by (own := [("net", 2)]) (N := ["script", "circuit", "net"]) (sc := defScope s_law_bare) (by decide +kernel)) (fun _ _ _ _ _ => (pg_name (i := 2) sc_law_bare.nd rfl (Or.inl rfl) (hf := .inr rfl))) (fun _ _ _ _ _ => pts_nil) (fun _ _ _ _ _ => (pe_op op_mod (pe_callTy call_int1 (by rfl) T.z_int (by decide +kernel) (pa_cons (pv 2) pa_nil)) (pe_ix (ixK (r := rIxT) (K := K) ix_tup rfl) (pv 1) pe_int (fun _ _ => rfl))))) pa_nil)) (pa_cons (pe_tup pa_nil) pa_nil)))))))), ?_⟩
    have a0 : ∀ {σ : L2.St} {G : Hp} {ta : TE}, Ex H G → Ev ta σ G (.ref p) → Ev (tOp (rIxT K) ta (tC (.int 0))) σ G (.int C.n) := fun e h => ev_op h ev_c (rv_ixT (ex_t e h1) rfl)
    have a2 : ∀ {σ : L2.St} {G : Hp} {ta : TE}, Ex H G → Ev ta σ G (.ref p) → Ev (tOp (rIxT K) ta (tC (.int 2))) σ G (.ref po) := fun e h => ev_op h ev_c (rv_ixT (ex_t e h1) rfl)
    refine a_when (Ex.refl H) (et_or (et_test (ev_op (a0 (Ex.refl H) (ev_var rfl)) ev_c (rv_eq rfl))) fun _ => et_test (ev_op (ev_op (ev_int1 (ev_call1 (z := .int (cellOf ns 2)) (ea_cons (ev_var rfl) (ea_cons ev_c ea_nil)) fun H1 x1 Q hq E => ⟨l, ns, 2, rfl, ex_l x1 hS, hq⟩)) ev_c (rv_I (by decide))) ev_c (rv_ne rfl))) (fun hb H1 e1 => ?_) (fun hb H1 e1 => ?_)
    · exact a_ret e1 (ev_var rfl) (fun H2 e2 => q C p H2 hW hD e2 (circ_mono e2 hC'))
    · have hn0 : C.n ≠ 0 := fun z => by
        rw [decI z] at hb
        cases hb
      have hn := hW.n0
      have hpos : 0 < C.n := by omega
      generalize houts : C.outs.map (fun x : Int => x % C.n) = outs
      have eo : C.outs.map (fun x : Int => V.int (x % C.n)) = outs.map V.int := by
        rw [← houts, List.map_map]
        rfl
      refine a_retP e1 (ep_tup (n := 4) (eap_cons (ep_of (v := .int C.n) (a0 (Ex.refl H) (ev_var rfl))) mono_v (eap_cons (ep_U (eu_tup ea_nil (by decide))) mono_U (eap_cons (ep_U (xs := outs.map V.int) ?_) mono_U (eap_cons (ep_U (eu_tup ea_nil (by decide))) mono_U eap_nil)))) (mono_cons mono_v (mono_cons mono_U (mono_cons mono_U (mono_cons mono_U mono_nil)))) (len_cons (len_cons (len_cons (len_cons len_nil)))) (by decide)) (fun v H2 e2 hv => ?_)
      · rw [← eo, ← fm_map (fun x : Int => V.int (x % C.n))]
        refine eu_tupN (el_dT (cs := C.outs) (fun x : Int => some (V.int (x % C.n))) (a := po) (a2 (Ex.refl H) (ev_var rfl)) h4 (by rw [List.length_map]) (by have := hW.outl; omega) (fun i x c hx hc => ?_))
        have ex : x = .int c := by
          rw [List.getElem?_map, hc] at hx
          exact (Option.some.inj hx).symm
        subst ex
        exact turn_mapD rfl (ev_op (ev_int1 (ev_var rfl)) (a0 (Ex.refl H) (ev_var rfl)) (rv_I hpos))
      · obtain ⟨pr, ws, rfl, hpr, v1, r1, rfl, rfl, v2, r2, rfl, ⟨pc2, rfl, hpc⟩, v3, r3, rfl, ⟨po2, rfl, hpo⟩, v4, r4, rfl, ⟨pl2, rfl, hpl⟩, hnil⟩ := hv
        rw [hnil] at hpr
        have hol : outs.length = C.outs.length := by rw [← houts, List.length_map]
        refine q ⟨C.n, [], outs, []⟩ pr H2 ⟨hn, hW.n6, Nat.zero_le _, (fun i c h => by cases h), fun x hx => ?_, by have := hW.outl; show outs.length ≤ 10; omega, rfl, Nat.zero_le _⟩ ⟨fun c h => absurd h List.not_mem_nil, by have := hD.o1; show 1 ≤ outs.length; omega, by have := hD.o6; show outs.length ≤ 6; omega, fun x h => absurd h List.not_mem_nil, List.nodup_nil⟩ e2 ⟨pc2, po2, pl2, [], st_of hpr, st_of hpc, ⟨rfl, (fun i v c h => by cases h)⟩, st_of hpo, st_of hpl⟩
        rw [← houts] at hx
        obtain ⟨y, _, rfl⟩ := List.mem_map.mp hx
        refine ⟨Int.emod_nonneg _ hn0, ?_⟩
        show y % C.n < C.n + ((([] : List CellD).length : Nat) : Int)
        have := Int.emod_lt_of_pos y hpos
        simpa using this

def sp_law_value (K : PySem.W.Frag) : Sp := fun vs H Q _ => ∃ (k : Str) (n : Nat) (l : Addr) (bs : List Int), vs = [.str k, .ref l] ∧ KC k n ∧ k ≠ "latch" ∧ SqL K H l (bs.map V.int) ∧ Bits bs ∧ RetV (.int (cellV k bs)) H Q
theorem ok_law_value (T : Top K mg w a) : FnOk P w K mg base CX0 1 a.f_law_value a.d_law_value ["kind", "bits"] (sp_law_value K) := by
  refine T.F_law_value.ok sc_law_value (fun vs H Q E h => ?_) (fun cdv A outer s H vs Q E hr h => ?_)
  · obtain ⟨k, n, l, bs, rfl, _⟩ := h
    rfl
  · obtain ⟨k, n, l, bs, rfl, hk, hla, hS, hB, q⟩ := h
    refine ⟨_, (pss_cons (ps_if (pt_cmpR op_eq (pe_slice sl_str (pv 0) po_none (po_some pe_int)) pe_str (nomark _))
      (pss_one (ps_ret (pe_callTy call_int_str (by rfl) T.z_int (by decide +kernel) (pa_cons (pe_ix ix_str (pv 0) pe_int (fun _ _ => rfl)) pa_nil))))
      pss_nil)
      (pss_cons (ps_if (pt_cmpR op_eq (pe_slice sl_str (pv 0) po_none (po_some pe_int)) pe_str (nomark _))
      (pss_one (ps_ret (pe_callTy call_int1 (by rfl) T.z_int (by decide +kernel) (pa_cons (pe_cmpR op_eq (pe_callB (cr_sum rfl) (by rfl) T.z_sum (by decide +kernel) (pa_cons (pv 1) pa_nil)) pe_int (nomark _)) pa_nil))))
      pss_nil)
      (pss_one (ps_ret (pe_callTy call_int1 (by rfl) T.z_int (by decide +kernel) (pa_cons (pe_cmpR op_lt (pe_callB (cr_sum rfl) (by rfl) T.z_sum (by decide +kernel) (pa_cons (pv 1) pa_nil)) (pe_callB call_len_seq (by rfl) T.z_len (by decide +kernel) (pa_cons (pv 1) pa_nil)) (nomark _)) pa_nil)))))), ?_⟩
    have en : decide (V.str (cutS k none (some 3)) = V.str "nor") = decide (k = "nor2" ∨ k = "nor3") := by
      cases hk <;> decide +kernel
    have et : decide (V.str (cutS k none (some 3)) = V.str "tie") = decide (k = "tie0" ∨ k = "tie1") := by
      cases hk <;> decide +kernel
    have hz : k.length ≤ 100000 := by
      cases hk <;> decide +kernel
    refine a_when (Ex.refl H) (et_test (ev_op (ev_slS (ev_var rfl) eo_none (eo_some ev_c) hz) ev_c (rv_eq rfl))) (fun hb H2 e2 => ?_) (fun hb H1 e1 => ?_)
    · rw [et] at hb
      rcases of_decide_eq_true hb with rfl | rfl
      · exact a_ret e2 (ev_intS (n := 0) (ev_op (ev_var rfl) ev_c (rv_ixS (c := 48) (by decide) (by decide +kernel))) (by decide +kernel) (by decide)) q
      · exact a_ret e2 (ev_intS (n := 1) (ev_op (ev_var rfl) ev_c (rv_ixS (c := 49) (by decide) (by decide +kernel))) (by decide +kernel) (by decide)) q
    rw [et] at hb
    have nt := of_decide_eq_false hb
    refine a_when e1 (et_test (ev_op (ev_slS (ev_var rfl) eo_none (eo_some ev_c) hz) ev_c (rv_eq rfl))) (fun hb H1 e1 => ?_) (fun hb H2 e2 => ?_)
    · rw [en] at hb
      have hb := of_decide_eq_true hb
      have ec : cellV k bs = 1 - bmax bs := by
        rcases hb with rfl | rfl <;> rfl
      rw [ec, cell_nor hB, ← ite_dec] at q
      refine a_ret e1 (ev_is (ev_int1b (ev_op (ev_sum (ev_var rfl) hS) ev_c (rv_eq rfl))) ?_) q
      congr 2
      simp
    · rw [en] at hb
      have nn := of_decide_eq_false hb
      have ec : cellV k bs = 1 - bmin bs := by
        unfold cellV
        rw [if_neg (fun z => nt (.inl z)), if_neg (fun z => nt (.inr z)), if_neg nn]
      rw [ec, cell_nand hB, ← ite_dec] at q
      refine a_ret e2 (ev_is (ev_int1b (ev_op (ev_sum (ev_var rfl) hS) (ev_lenS (ev_var rfl) hS) rv_I0)) ?_) q
      congr 2
      simp
def sp_law_values (K : PySem.W.Frag) : Sp := fun vs H Q _ => ∃ (p li ls : Addr) (C : CircD) (ins sts : List Int), vs = [.ref p, .ref li, .ref ls] ∧ CircAt K H p C ∧ WFC C ∧ SqL K H li (ins.map V.int) ∧ SqL K H ls (sts.map V.int) ∧ GoodV C ins sts ∧ RetL ((valsOf C ins sts).map V.int) H Q
theorem ok_law_values (T : Top K mg w a) : FnOk P w K mg base CX0 2 a.f_law_values a.d_law_values ["circuit", "inputs", "states"] (sp_law_values K) := by
  refine T.F_law_values.ok sc_law_values (fun vs H Q E h => ?_) (fun cdv A outer s H vs Q E hr h => ?_)
  · obtain ⟨p, li, ls, C, ins, sts, rfl, _⟩ := h
    rfl
  · obtain ⟨p, li, ls, C, ins, sts, rfl, hC, hW, hI, hSt, hG, hV⟩ := h
    obtain ⟨pc, po, pl, vs, h1, h2, h3, h4, h5⟩ := hC
    refine ⟨_, (pss_cons (ps_set (i := 3) sc_law_values.nd rfl (Or.inr rfl) (pe_callTy call_list_of (by rfl) T.z_list (by decide +kernel) (pa_cons (pv 1) pa_nil)))
      (pss_cons (ps_set (i := 4) sc_law_values.nd rfl (Or.inl rfl) pe_int)
      (pss_cons (ps_for PassesOwn.never rfl (pi_tup (pe_ix ix_tup (pv 0) pe_int (fun _ _ => rfl))) (pg_name (i := 5) sc_law_values.nd rfl (Or.inl rfl))
      (pss_one (ps_if (pt_cmpR op_eq (pe_ix ix_tup (pv 5) pe_int (fun _ _ => rfl)) pe_str (nomark _))
      (pss_cons (ps_expr (pe_bm PySem.F.plainAttrs_list PySem.F.slot_list_append PySem.F.type_list_append mt_append (pv 3) (pa_cons (pe_ix ix_list (pv 2) (pv 4) (fun _ _ => rfl)) pa_nil)))
      (pss_one (ps_set (i := 4) sc_law_values.nd rfl (Or.inl rfl) (pe_op op_add (pv 4) pe_int))))
      (pss_one (ps_expr (pe_bm PySem.F.plainAttrs_list PySem.F.slot_list_append PySem.F.type_list_append mt_append (pv 3) (pa_cons (pe_call (ok_law_value T) (hr.mono (by decide)) (by rfl) T.g_law_value T.F_law_value.kp T.b_law_value .nil pass0 (pa_cons (pe_ix ix_tup (pv 5) pe_int (fun _ _ => rfl)) (pa_cons (pe_lc (own := [("net", 6)]) (by rfl) sc_law_values.nd (pi_tup (pe_ix ix_tup (pv 5) pe_int (fun _ _ => rfl))) (blkOk_by (own := [("net", 6)]) (N := ["circuit", "inputs", "states", "values", "latch", "cell", "net"]) (sc := defScope s_law_values) (by decide +kernel)) (fun _ _ _ _ _ => (pg_name (i := 6) sc_law_values.nd rfl (Or.inl rfl) (hf := .inr rfl))) (fun _ _ _ _ _ => pts_nil) (fun _ _ _ _ _ => (pe_ix (ixK (r := rIxL) (K := K) ix_list rfl) (pv 3) (pv 6) (fun _ _ => rfl)))) pa_nil))) pa_nil)))))))
      (pss_one (ps_ret (pv 3)))))), ?_⟩
    refine a_setL (Ex.refl H) (el_listL (ev_var rfl) hI) (fun r H5 hr5 e5 => ?_)
    refine a_set e5 ev_c (fun H6 e6 => ?_)
    obtain ⟨g1, g2⟩ := hG
    have bI : Bits ins := g1.2
    have bS : Bits sts := g2.2
    have lS : sts.length = numLat C.cells := by
      have := g2.1
      rw [← hW.lat]
      omega
    refine a_forT (G := upd H r (.lst (ins.map V.int))) e6 (ev_op (ev_var rfl) ev_c (rv_ixT (ex_t (Ex.new hr5) h1) rfl)) (ex_t (Ex.new hr5) h2)
      (fun i σ' H' => ∃ y1 y2, σ' = [some (.ref p), some (.ref li), some (.ref ls), some (.ref r), some (.int ((runV sts ins (C.cells.take i)).2 : Nat)), y1, y2] ∧ Ex (upd H r (.lst ((runV sts ins (C.cells.take i)).1.map V.int))) H')
      (fun H7 e7 => ⟨none, none, rfl, e7⟩) (fun i σ' H' _ ⟨_, _, _, e7⟩ => ex_t ((Ex.new hr5).trans e7) h2) ?_ ?_
    · rintro i x σ' H' hx ⟨y1, y2, rfl, e7⟩
      have hlt := (List.getElem?_eq_some_iff.mp hx).1
      have hltc : i < C.cells.length := by rw [← h3.1]; exact hlt
      have hc : C.cells[i]? = some C.cells[i] := List.getElem?_eq_getElem hltc
      generalize C.cells[i] = c at hc
      obtain ⟨pk, qk, rfl, hk1, hk2⟩ := h3.2 i x c hx hc
      obtain ⟨kc, ko, kin, kl⟩ := hW.kind i c hc
      obtain ⟨rl1, rl2⟩ := run_len (sts := sts) (ins := ins) (C.cells.take i)
      have hlen : (C.cells.take i).length = i := by rw [List.length_take]; omega
      have hbits := run_bits bI bS (C.cells.take i)
      have hmore := run_more (sts := sts) (ins := ins) hc
      generalize runV sts ins (C.cells.take i) = R at e7 rl1 rl2 hbits hmore
      rw [hmore]
      have sG : ∀ {o : HO}, Ex H (upd H r o) := Ex.new hr5
      have hz : R.1.length < 100000 := by
        have := hW.len; have := hW.n6; have := g1.1
        omega
      have c0 : ∀ {σ : L2.St} {G : Hp} {ta : TE}, Ex H G → Ev ta σ G (.ref pk) → Ev (tOp (rIxT K) ta (tC (.int 0))) σ G (.str c.kind) := fun e h => ev_op h ev_c (rv_ixT (ex_t e hk1) rfl)
      have c1 : ∀ {σ : L2.St} {G : Hp} {ta : TE}, Ex H G → Ev ta σ G (.ref pk) → Ev (tOp (rIxT K) ta (tC (.int 1))) σ G (.ref qk) := fun e h => ev_op h ev_c (rv_ixT (ex_t e hk1) rfl)
      refine a_if e7 (et_test (ev_op (c0 sG (ev_var rfl)) ev_c (rv_eq rfl))) (fun hb H8 e8 => ?_) (fun hb H8 e8 => ?_)
      · rw [dec_str] at hb
        have kl2 := of_decide_eq_true hb
        have hnl := numLat_take hc kl2
        refine a_app (v := .int (sts.getD R.2 0)) e8 (ev_var rfl) upd_same (ev_op (ev_var rfl) (ev_var rfl) (rv_ixL (ex_l sG hSt) (at_map (by rw [rl2]; omega)))) (by rw [List.length_map]; exact hz) (fun H9 e9 => ?_)
        rw [upd_upd] at e9
        refine a_set1 e9 (ev_op (ev_var rfl) ev_c rv_I0) (fun H10 e10 => ?_)
        rw [show stepV sts R c = (R.1 ++ [sts.getD R.2 0], R.2 + 1) from if_pos kl2]
        refine ⟨_, _, rfl, ?_⟩
        show Ex (upd H r (.lst ((R.1 ++ [sts.getD R.2 0]).map V.int))) H10
        rw [List.map_append]
        exact e10
      · rw [dec_str] at hb
        have kl2 := of_decide_eq_false hb
        have hin : ∀ x ∈ c.ins, 0 ≤ x ∧ x < (R.1.length : Int) := fun x hx => by
          have a1 := (kin x hx).1
          have a2 := kl kl2 x hx
          have a3 := g1.1
          omega
        have bins : Bits (c.ins.map fun i => R.1.getD i.toNat 0) := fun b hb => by
          obtain ⟨x, _, rfl⟩ := List.mem_map.mp hb
          exact bits_getD hbits _
        refine a_app1 (v := .int (cellV c.kind (c.ins.map fun i => R.1.getD i.toNat 0))) e8 (ev_var rfl) upd_same ?_ (by rw [List.length_map]; exact hz) (fun H9 e9 => ?_)
        · refine ev_callL (x := .str c.kind) (xs := (c.ins.map fun i => R.1.getD i.toNat 0).map V.int) ?_ (fun H1 x1 => ?_) (fun q H1 x1 hq Q k E => ?_)
          · exact c0 sG (ev_var rfl)
          · rw [List.map_map]
            show EvL _ _ _ (c.ins.map fun x => V.int (R.1.getD x.toNat 0))
            rw [← fm_map (fun x : Int => V.int (R.1.getD x.toNat 0)) c.ins]
            refine el_dT (cs := c.ins) (fun x => some (V.int (R.1.getD x.toNat 0))) (a := qk) ?_ (ex_t (sG.trans x1) hk2) (by rw [List.length_map]) (by have := kc_le kc; omega) (fun i x n hx hn => ?_)
            · exact c1 (sG.trans x1) (ev_var rfl)
            have ex : x = .int n := by
              rw [List.getElem?_map, hn] at hx
              exact (Option.some.inj hx).symm
            subst ex
            have hm := hin n (List.mem_of_getElem? hn)
            exact turn_mapD rfl (ev_op (ev_var rfl) (ev_var rfl) (rv_ixL (ex_l x1 (sq_of upd_same)) (vals_at hm.1 hm.2)))
          · exact ⟨c.kind, _, q, _, rfl, kc, kl2, sq_of hq, bins, k⟩
        rw [upd_upd] at e9
        rw [show stepV sts R c = (R.1 ++ [cellV c.kind (c.ins.map fun i => R.1.getD i.toNat 0)], R.2) from if_neg kl2]
        refine ⟨_, _, rfl, ?_⟩
        show Ex (upd H r (.lst ((R.1 ++ [cellV c.kind (c.ins.map fun i => R.1.getD i.toNat 0)]).map V.int))) H9
        rw [List.map_append]
        exact e9
    · rintro σ' H' ⟨y1, y2, rfl, e7⟩
      rw [h3.1, List.take_of_length_le (Nat.le_refl _)] at e7
      exact a_ret e7 (ev_var rfl) (fun H8 e8 => hV r H8 hr5 ((Ex.new hr5).trans e8) (e8 r _ upd_same))

/-! ### the law -/
theorem good_bits {C : CircD} {bs : List Int} (hB : Bits bs) (h10 : bs.length = 10) (hW : WFC C) : GoodV C (bs.take C.n.toNat) ((bs.drop C.n.toNat).take C.lats.length) := by
  have n0 := hW.n0; have n6 := hW.n6; have l4 := hW.lat4
  refine ⟨⟨?_, fun x hx => hB x (List.mem_of_mem_take hx)⟩, ⟨?_, fun x hx => hB x (List.mem_of_mem_drop (List.mem_of_mem_take hx))⟩⟩
  · rw [List.length_take]; omega
  · rw [List.length_take, List.length_drop]; omega
theorem vals_bits {C : CircD} {ins sts : List Int} (g : GoodV C ins sts) : Bits (valsOf C ins sts) := run_bits g.1.2 g.2.2 C.cells
theorem outs_bits {C : CircD} {vals : List Int} (h : Bits vals) : Bits (outsOf C vals) := fun x hx => by
  obtain ⟨y, _, rfl⟩ := List.mem_map.mp hx
  exact bits_getD h _
theorem nexts_bits {C : CircD} {vals : List Int} (h : Bits vals) : Bits (nextsOf C vals) := fun x hx => by
  obtain ⟨y, _, rfl⟩ := List.mem_map.mp hx
  exact bits_getD h _
theorem nexts_len (C : CircD) (vals : List Int) : (nextsOf C vals).length = numLat C.cells := by
  unfold nextsOf numLat
  rw [List.length_map]
def sp_law_refuses (K : PySem.W.Frag) : Sp := fun vs H Q _ => ∃ (p li ls : Addr) (C : CircD) (ins sts : List Int), vs = [.ref p, .ref li, .ref ls] ∧ CircAt K H p C ∧ WFC C ∧ SqL K H li (ins.map V.int) ∧ SqL K H ls (sts.map V.int) ∧ Small ins ∧ Small sts ∧ ¬ GoodV C ins sts ∧ RetV (.bl true) H Q
theorem ok_law_refuses (T : Top K mg w a) : FnOk P w K mg base CX0 4 a.f_law_refuses a.d_law_refuses ["circuit", "inputs", "states"] (sp_law_refuses K) := by
  refine T.F_law_refuses.ok sc_law_refuses (fun vs H Q E h => ?_) (fun cdv A outer s H vs Q E hr h => ?_)
  · obtain ⟨p, li, ls, C, ins, sts, rfl, _⟩ := h
    rfl
  · obtain ⟨p, li, ls, C, ins, sts, rfl, hC, hW, hI, hSt, smI, smS, hG, q⟩ := h
    refine ⟨_, (pss_cons (ps_set (i := 3) sc_law_refuses.nd rfl (Or.inl rfl) pe_int)
      (Evl.pss_cut (ps_try_only rfl rfl ⟨rfl, by decide, .inl T.g_InvalidValues⟩ takes0 (fun W pn xe tk po => (pss_one (ps_expr (pe_callS (ok_cell_values T) (hr.mono (by decide)) (by rfl) T.g_cell_values T.F_cell_values.kp T.b_cell_values (fun σ => passAt tk σ) (pa_cons (pv 0) (pa_cons (pv 1) (pa_cons (pv 2) pa_nil)))))))
      (fun ex oe cls d pn hz hf => (pss_one (ps_set (i := 3) sc_law_refuses.nd rfl (Or.inl rfl) (pe_op op_add (pv 3) pe_int)))))
      (Evl.pss_cut (ps_try_only rfl rfl ⟨rfl, by decide, .inl T.g_InvalidValues⟩ takes0 (fun W pn xe tk po => (pss_one (ps_expr (pe_callS (ok_circuit_outputs T) (hr.mono (by decide)) (by rfl) T.g_circuit_outputs T.F_circuit_outputs.kp T.b_circuit_outputs (fun σ => passAt tk σ) (pa_cons (pv 0) (pa_cons (pv 1) (pa_cons (pv 2) pa_nil)))))))
      (fun ex oe cls d pn hz hf => (pss_one (ps_set (i := 3) sc_law_refuses.nd rfl (Or.inl rfl) (pe_op op_add (pv 3) pe_int)))))
      (Evl.pss_cut (ps_try_only rfl rfl ⟨rfl, by decide, .inl T.g_InvalidValues⟩ takes0 (fun W pn xe tk po => (pss_one (ps_expr (pe_callS (ok_circuit_next T) (hr.mono (by decide)) (by rfl) T.g_circuit_next T.F_circuit_next.kp T.b_circuit_next (fun σ => passAt tk σ) (pa_cons (pv 0) (pa_cons (pv 1) (pa_cons (pv 2) pa_nil)))))))
      (fun ex oe cls d pn hz hf => (pss_one (ps_set (i := 3) sc_law_refuses.nd rfl (Or.inl rfl) (pe_op op_add (pv 3) pe_int)))))
      (pss_one (ps_ret (pe_cmpR op_eq (pv 3) pe_int (nomark _)))))))), ?_⟩
    refine a_set (Ex.refl H) ev_c (fun H1 e1 => ?_)
    refine ⟨fun σ' H' => σ' = [some (.ref p), some (.ref li), some (.ref ls), some (.int 1)] ∧ Ex H H', ?_, ?_⟩
    · refine a_callX1S (vs := [.ref p, .ref li, .ref ls]) e1 (ea_cons (ev_var rfl) (ea_cons (ev_var rfl) (ea_cons (ev_var rfl) ea_nil))) (fun H2 e2 => ⟨p, li, ls, C, ins, sts, rfl, circ_mono e2 hC, hW, ex_l e2 hI, ex_l e2 hSt, smI, smS, fun g => absurd g hG, fun _ H3 e3 => ?_⟩)
      exact ⟨true, T.e_InvalidValues_InvalidValues, fun _ ex hex => a_set1 (e2.trans e3) (ev_op (ev_var rfl) ev_c rv_I0) (fun H4 e4 => ⟨rfl, e4⟩), fun z => nomatch z⟩
    rintro σ' H2 ⟨rfl, e2⟩
    refine ⟨fun σ' H' => σ' = [some (.ref p), some (.ref li), some (.ref ls), some (.int 2)] ∧ Ex H H', ?_, ?_⟩
    · refine a_callX1S (vs := [.ref p, .ref li, .ref ls]) e2 (ea_cons (ev_var rfl) (ea_cons (ev_var rfl) (ea_cons (ev_var rfl) ea_nil))) (fun H2 e2 => ⟨p, li, ls, C, ins, sts, rfl, circ_mono e2 hC, hW, ex_l e2 hI, ex_l e2 hSt, smI, smS, fun g => absurd g hG, fun _ H3 e3 => ?_⟩)
      exact ⟨true, T.e_InvalidValues_InvalidValues, fun _ ex hex => a_set1 (e2.trans e3) (ev_op (ev_var rfl) ev_c rv_I0) (fun H4 e4 => ⟨rfl, e4⟩), fun z => nomatch z⟩
    rintro σ' H3 ⟨rfl, e3⟩
    refine ⟨fun σ' H' => σ' = [some (.ref p), some (.ref li), some (.ref ls), some (.int 3)] ∧ Ex H H', ?_, ?_⟩
    · refine a_callX1S (vs := [.ref p, .ref li, .ref ls]) e3 (ea_cons (ev_var rfl) (ea_cons (ev_var rfl) (ea_cons (ev_var rfl) ea_nil))) (fun H2 e2 => ⟨p, li, ls, C, ins, sts, rfl, circ_mono e2 hC, hW, ex_l e2 hI, ex_l e2 hSt, smI, smS, fun g => absurd g hG, fun _ H3 e3 => ?_⟩)
      exact ⟨true, T.e_InvalidValues_InvalidValues, fun _ ex hex => a_set1 (e2.trans e3) (ev_op (ev_var rfl) ev_c rv_I0) (fun H4 e4 => ⟨rfl, e4⟩), fun z => nomatch z⟩
    rintro σ' H4 ⟨rfl, e4⟩
    exact a_ret e4 (ev_op (ev_var rfl) ev_c (rv_eq rfl)) q

def sp_law_right_case (K : PySem.W.Frag) : Sp := fun vs H Q _ => ∃ (p li ls : Addr) (C : CircD) (ins sts : List Int), vs = [.ref p, .ref li, .ref ls] ∧ CircAt K H p C ∧ WFC C ∧ SqL K H li (ins.map V.int) ∧ SqL K H ls (sts.map V.int) ∧ Small ins ∧ Small sts ∧ GoodV C ins sts ∧ RetV (.bl true) H Q
theorem dp_two {K : PySem.W.Frag} {H : Hp} {r p q : Addr} {ns ms : List Int} (h : SqL K H r [.ref p, .ref q]) (h1 : SqL K H p (ns.map V.int)) (h2 : SqL K H q (ms.map V.int)) : Dp K H (.ref r) (.list [.list (ns.map PyData.int), .list (ms.map PyData.int)]) := .lst h (.cons (dp_ints h1) (.cons (dp_ints h2) .nil))
theorem shaped_two (ns ms : List Int) : SeqAt.shaped (.list [.list (ns.map PyData.int), .list (ms.map PyData.int)]) = true := by
  have h1 := depth_ints ns
  have h2 := depth_ints ms
  simp [SeqAt.shaped, PyData.canLay0, PyData.canLayAll0, PyData.depth, PyData.depthAll, canLay_ints]
  omega
theorem eqv_two (ns ms : List Int) : PyData.eqv (.list [.list (ns.map PyData.int), .list (ms.map PyData.int)]) (.list [.list (ns.map PyData.int), .list (ms.map PyData.int)]) = true := by
  simp [PyData.eqv, PyData.eqvAll, eqv_ints]
theorem ok_law_right_case (T : Top K mg w a) : FnOk P w K mg base CX0 4 a.f_law_right_case a.d_law_right_case ["circuit", "inputs", "states"] (sp_law_right_case K) := by
  refine T.F_law_right_case.ok sc_law_right_case (fun vs H Q E h => ?_) (fun cdv A outer s H vs Q E hr h => ?_)
  · obtain ⟨p, li, ls, C, ins, sts, rfl, _⟩ := h
    rfl
  · obtain ⟨p, li, ls, C, ins, sts, rfl, hC, hW, hI, hSt, smI, smS, hG, q⟩ := h
    refine ⟨_, (pss_cons (ps_set (i := 3) sc_law_right_case.nd rfl (Or.inr rfl) (pe_call (ok_law_values T) (hr.mono (by decide)) (by rfl) T.g_law_values T.F_law_values.kp T.b_law_values .nil pass0 (pa_cons (pv 0) (pa_cons (pv 1) (pa_cons (pv 2) pa_nil)))))
      (pss_cons (ps_set (i := 4) sc_law_right_case.nd rfl (Or.inl rfl) (pe_lst (pa_cons (pe_callTy call_list_of (by rfl) T.z_list (by decide +kernel) (pa_cons (pv 1) pa_nil)) (pa_cons (pe_callTy call_list_of (by rfl) T.z_list (by decide +kernel) (pa_cons (pv 2) pa_nil)) pa_nil))))
      (pss_cons (ps_set (i := 5) sc_law_right_case.nd rfl (Or.inl rfl) (pe_lst (pa_cons (pe_call (ok_cell_values T) (hr.mono (by decide)) (by rfl) T.g_cell_values T.F_cell_values.kp T.b_cell_values .nil passL (pa_cons (pv 0) (pa_cons (pe_ix ix_list (pv 4) pe_int (fun _ _ => rfl)) (pa_cons (pe_ix ix_list (pv 4) pe_int (fun _ _ => rfl)) pa_nil)))) (pa_cons (pe_call (ok_circuit_outputs T) (hr.mono (by decide)) (by rfl) T.g_circuit_outputs T.F_circuit_outputs.kp T.b_circuit_outputs .nil passL (pa_cons (pv 0) (pa_cons (pe_ix ix_list (pv 4) pe_int (fun _ _ => rfl)) (pa_cons (pe_ix ix_list (pv 4) pe_int (fun _ _ => rfl)) pa_nil)))) pa_nil))))
      (pss_cons (ps_expr (pe_bm PySem.F.plainAttrs_list PySem.F.slot_list_append PySem.F.type_list_append mt_append (pv 5) (pa_cons (pe_call (ok_circuit_next T) (hr.mono (by decide)) (by rfl) T.g_circuit_next T.F_circuit_next.kp T.b_circuit_next .nil passL (pa_cons (pv 0) (pa_cons (pe_ix ix_list (pv 4) pe_int (fun _ _ => rfl)) (pa_cons (pe_ix ix_list (pv 4) pe_int (fun _ _ => rfl)) pa_nil)))) pa_nil)))
      (pss_cons (ps_setLc (i := 6) (own := [("cell", 7)]) (by rfl) sc_law_right_case.nd rfl rfl (sw_true rfl rfl rfl (by decide +kernel)) (pi_tup (pe_ix ix_tup (pv 0) pe_int (fun _ _ => rfl))) (blkOk_by (own := [("cell", 7)]) (N := ["circuit", "inputs", "states", "due", "passed", "told", "following", "cell", "net"]) (sc := defScope s_law_right_case) (by decide +kernel)) (fun _ _ _ _ _ => (pg_name (i := 7) sc_law_right_case.nd rfl (Or.inl rfl) (hf := .inr rfl))) (fun _ _ _ _ _ => pts_one (pt_cmpR op_eq (pe_ix (ixK (r := rIxT) (K := K) ix_tup rfl) (pv 7) pe_int (fun _ _ => rfl)) pe_str (nomark _))) (fun _ _ _ _ _ => (pe_ix (ixK (r := rIxL) (K := K) ix_list rfl) (pv 3) (pe_ix (ixK (r := rIxT) (K := K) ix_tup rfl) (pe_ix (ixK (r := rIxT) (K := K) ix_tup rfl) (pv 7) pe_int (fun _ _ => rfl)) pe_int (fun _ _ => rfl)) (fun _ _ => rfl))))
      (pss_cons (ps_if (pt_cmpR (op_neD (hu64 hr)) (pv 4) (pe_lst (pa_cons (pv 1) (pa_cons (pv 2) pa_nil))) (nomark _))
      (pss_one (ps_ret pe_bl))
      pss_nil)
      (pss_cons (ps_if (PW.pt (pw_or (pt_not (pt_val (pe_call (ok_law_is_bits T) (hr.mono (by decide)) (by rfl) T.g_law_is_bits T.F_law_is_bits.kp T.b_law_is_bits .nil pass0 (pa_cons (pe_ix ix_list (pv 5) pe_int (fun _ _ => rfl)) (pa_cons (pe_callB call_len_seq (by rfl) T.z_len (by decide +kernel) (pa_cons (pv 3) pa_nil)) pa_nil))))) (pw_or1 (pt_not (pt_val (pe_call (ok_law_is_bits T) (hr.mono (by decide)) (by rfl) T.g_law_is_bits T.F_law_is_bits.kp T.b_law_is_bits .nil pass0 (pa_cons (pe_ix ix_list (pv 5) pe_int (fun _ _ => rfl)) (pa_cons (pe_callB call_len_seq (by rfl) T.z_len (by decide +kernel) (pa_cons (pe_ix ix_tup (pv 0) pe_int (fun _ _ => rfl)) pa_nil)) pa_nil))))))))
      (pss_one (ps_ret pe_bl))
      pss_nil)
      (pss_cons (ps_if (pt_not (pt_val (pe_call (ok_law_is_bits T) (hr.mono (by decide)) (by rfl) T.g_law_is_bits T.F_law_is_bits.kp T.b_law_is_bits .nil pass0 (pa_cons (pe_ix ix_list (pv 5) pe_int (fun _ _ => rfl)) (pa_cons (pe_callB call_len_seq (by rfl) T.z_len (by decide +kernel) (pa_cons (pv 2) pa_nil)) pa_nil)))))
      (pss_one (ps_ret pe_bl))
      pss_nil)
      (pss_one (ps_ret (pe_and (pe_cmpR (op_eqD (hu64 hr)) (pe_ix ix_list (pv 5) pe_int (fun _ _ => rfl)) (pv 3) (nomark _)) (pe_and (pe_cmpR (op_eqD (hu64 hr)) (pe_ix ix_list (pv 5) pe_int (fun _ _ => rfl)) (pe_lc (own := [("net", 8)]) (by rfl) sc_law_right_case.nd (pi_tup (pe_ix ix_tup (pv 0) pe_int (fun _ _ => rfl))) (blkOk_by (own := [("net", 8)]) (N := ["circuit", "inputs", "states", "due", "passed", "told", "following", "cell", "net"]) (sc := defScope s_law_right_case) (by decide +kernel)) (fun _ _ _ _ _ => (pg_name (i := 8) sc_law_right_case.nd rfl (Or.inl rfl) (hf := .inr rfl))) (fun _ _ _ _ _ => pts_nil) (fun _ _ _ _ _ => (pe_ix (ixK (r := rIxL) (K := K) ix_list rfl) (pv 3) (pv 8) (fun _ _ => rfl)))) (nomark _)) (pe_one (pe_cmpR (op_eqD (hu64 hr)) (pe_ix ix_list (pv 5) pe_int (fun _ _ => rfl)) (pv 6) (nomark _))))))))))))))), ?_⟩
    have vb := vals_bits hG
    have vl := vals_len hG hW
    refine a_setL (Ex.refl H) (el_call1 (xs := (valsOf C ins sts).map V.int) (ea_cons (ev_var rfl) (ea_cons (ev_var rfl) (ea_cons (ev_var rfl) ea_nil))) fun H1 x1 Q hq E => ⟨p, li, ls, C, ins, sts, rfl, circ_mono x1 hC, hW, ex_l x1 hI, ex_l x1 hSt, hG, hq⟩) (fun d H1 hd e1 => ?_)
    have hD1 : SqL K H1 d ((valsOf C ins sts).map V.int) := ex_l e1 (sq_of upd_same)
    have x1 : Ex H H1 := (Ex.new hd).trans e1
    refine a_setP (Ex.refl H1) (ep_lst (n := 2) (eap_cons (ep_L (el_listL (ev_var rfl) (ex_l x1 hI))) mono_L (eap_cons (ep_L (el_listL (ev_var rfl) (ex_l x1 hSt))) mono_L eap_nil)) (mono_cons mono_L (mono_cons mono_L mono_nil)) (len_cons (len_cons len_nil)) (by decide)) (fun v H2 e2 hv => ?_)
    obtain ⟨r, ws, rfl, hr2, v1, r1, rfl, ⟨pi, rfl, hpi⟩, v2, r2, rfl, ⟨ps, rfl, hps⟩, hnil⟩ := hv
    rw [hnil] at hr2
    have x2 : Ex H H2 := x1.trans e2
    have pa0 : ∀ {σ : L2.St} {G : Hp} {ta : TE}, Ex H2 G → Ev ta σ G (.ref r) → Ev (tOp (rIxL K) ta (tC (.int 0))) σ G (.ref pi) := fun e h => ev_op h ev_c (rv_ixL (sq_of (e _ _ hr2)) rfl)
    have pa1 : ∀ {σ : L2.St} {G : Hp} {ta : TE}, Ex H2 G → Ev ta σ G (.ref r) → Ev (tOp (rIxL K) ta (tC (.int 1))) σ G (.ref ps) := fun e h => ev_op h ev_c (rv_ixL (sq_of (e _ _ hr2)) rfl)
    have cv : ∀ {σ : L2.St} {G : Hp} {E : XK} {ta tb tc : TE}, Ex H2 G → Ev ta σ G (.ref p) → Ev tb σ G (.ref pi) → Ev tc σ G (.ref ps) → EvL (tCall (sp_cell_values K a) [] E (tCons ta (tCons tb (tCons tc tNil)))) σ G ((valsOf C ins sts).map V.int) := fun e h1 h2 h3 => el_call1 (ea_cons h1 (ea_cons h2 (ea_cons h3 ea_nil))) fun H3 y1 Q hq E => ⟨p, pi, ps, C, ins, sts, rfl, circ_mono (x2.trans (e.trans y1)) hC, hW, sq_of (y1 _ _ (e _ _ hpi)), sq_of (y1 _ _ (e _ _ hps)), smI, smS, fun _ => hq, fun z => absurd hG z⟩
    have co : ∀ {σ : L2.St} {G : Hp} {E : XK} {ta tb tc : TE}, Ex H2 G → Ev ta σ G (.ref p) → Ev tb σ G (.ref pi) → Ev tc σ G (.ref ps) → EvL (tCall (sp_circuit_outputs K a) [] E (tCons ta (tCons tb (tCons tc tNil)))) σ G ((outsOf C (valsOf C ins sts)).map V.int) := fun e h1 h2 h3 => el_call1 (ea_cons h1 (ea_cons h2 (ea_cons h3 ea_nil))) fun H3 y1 Q hq E => ⟨p, pi, ps, C, ins, sts, rfl, circ_mono (x2.trans (e.trans y1)) hC, hW, sq_of (y1 _ _ (e _ _ hpi)), sq_of (y1 _ _ (e _ _ hps)), smI, smS, fun _ => hq, fun z => absurd hG z⟩
    have cn : ∀ {σ : L2.St} {G : Hp} {E : XK} {ta tb tc : TE}, Ex H2 G → Ev ta σ G (.ref p) → Ev tb σ G (.ref pi) → Ev tc σ G (.ref ps) → EvL (tCall (sp_circuit_next K a) [] E (tCons ta (tCons tb (tCons tc tNil)))) σ G ((nextsOf C (valsOf C ins sts)).map V.int) := fun e h1 h2 h3 => el_call1 (ea_cons h1 (ea_cons h2 (ea_cons h3 ea_nil))) fun H3 y1 Q hq E => ⟨p, pi, ps, C, ins, sts, rfl, circ_mono (x2.trans (e.trans y1)) hC, hW, sq_of (y1 _ _ (e _ _ hpi)), sq_of (y1 _ _ (e _ _ hps)), smI, smS, fun _ => hq, fun z => absurd hG z⟩
    refine a_setF (Ex.refl H2) (ef_lst (n := 2) (eap_cons (ep_L (cv (Ex.refl _) (ev_var rfl) (pa0 (Ex.refl _) (ev_var rfl)) (pa1 (Ex.refl _) (ev_var rfl)))) mono_L (eap_cons (ep_L (co (Ex.refl _) (ev_var rfl) (pa0 (Ex.refl _) (ev_var rfl)) (pa1 (Ex.refl _) (ev_var rfl)))) mono_L eap_nil)) (mono_cons mono_L (mono_cons mono_L mono_nil)) (len_cons (len_cons len_nil)) (by decide)) (fun m H3 hm0 e3 hv => ?_)
    obtain ⟨ws2, hm, v1, r1, rfl, ⟨t0, rfl, ht0⟩, v2, r2, rfl, ⟨t1, rfl, ht1⟩, hnil2⟩ := hv
    rw [hnil2] at hm
    have x3 : Ex H H3 := x2.trans e3
    refine a_appP (Ex.refl H3) (ev_var rfl) hm (ep_L (cn e3 (ev_var rfl) (pa0 e3 (ev_var rfl)) (pa1 e3 (ev_var rfl)))) (by show 2 < 100000; decide) (fun v H4 e4 hv => ?_)
    obtain ⟨t2, rfl, ht2⟩ := hv
    have hm4 := e4 _ _ hm
    have nt : ∀ {b : Addr} {ns : List Int}, H4 b = some (.lst (ns.map V.int)) → (upd H4 m (.lst ([V.ref t0, V.ref t1] ++ [V.ref t2]))) b = some (.lst (ns.map V.int)) := fun h => by
      rw [upd_ne (ne_of h hm4 ints_ne)]
      exact h
    have f0 := nt (e4 _ _ ht0)
    have f1 := nt (e4 _ _ ht1)
    have f2 := nt ht2
    have fm : (upd H4 m (.lst ([V.ref t0, V.ref t1] ++ [V.ref t2]))) m = some (.lst [V.ref t0, V.ref t1, V.ref t2]) := upd_same
    have x5 : Ex H2 (upd H4 m (.lst ([V.ref t0, V.ref t1] ++ [V.ref t2]))) := Ex.mut (e3.trans e4) hm0
    generalize upd H4 m (.lst ([V.ref t0, V.ref t1] ++ [V.ref t2])) = H5 at f0 f1 f2 fm x5
    have x25 : Ex H H5 := x2.trans x5
    obtain ⟨pc, po, pl, vs, h1, h2, h3, h4, h5⟩ := hC
    have hD5 : SqL K H5 d ((valsOf C ins sts).map V.int) := ex_l (e2.trans x5) hD1
    have c1 : ∀ {σ : L2.St} {G : Hp} {ta : TE}, Ex H5 G → Ev ta σ G (.ref p) → Ev (tOp (rIxT K) ta (tC (.int 1))) σ G (.ref pc) := fun e h => ev_op h ev_c (rv_ixT (ex_t (x25.trans e) h1) rfl)
    have c2 : ∀ {σ : L2.St} {G : Hp} {ta : TE}, Ex H5 G → Ev ta σ G (.ref p) → Ev (tOp (rIxT K) ta (tC (.int 2))) σ G (.ref po) := fun e h => ev_op h ev_c (rv_ixT (ex_t (x25.trans e) h1) rfl)
    -- following
    refine a_setL (G := H5) (xs := (nextsOf C (valsOf C ins sts)).map V.int) (Ex.refl H5) ?_ (fun f H6 hf e6 => ?_)
    · rw [← nexts_fm]
      refine el_dT (cs := C.cells) (fun c : CellD => if c.kind = ("latch" : Str) then some (V.int ((valsOf C ins sts).getD (c.ins.getD 0 0).toNat 0)) else none) (a := pc) ?_ (ex_t x25 h2) h3.1 (by have := hW.len; omega) (fun i x c hx hc => ?_)
      · exact c1 (Ex.refl _) (ev_var rfl)
      obtain ⟨pk, qk, rfl, hk1, hk2⟩ := h3.2 i x c hx hc
      obtain ⟨kc, ko, kin, kl⟩ := hW.kind i c hc
      refine turn_nameD rfl ?_ (fun y hy => ?_)
      · refine et_is (et_test (ev_op (ev_op (ev_var rfl) ev_c (rv_ixT (ex_t x25 hk1) rfl)) ev_c (rv_eq rfl))) ?_
        rw [dec_str]
        by_cases hk : c.kind = "latch"
        · rw [if_pos hk]; exact decide_eq_true hk
        · rw [if_neg hk]; exact decide_eq_false hk
      · by_cases hk : c.kind = "latch"
        · rw [if_pos hk] at hy
          obtain rfl := Option.some.inj hy
          have h1c := kc_latch kc hk
          have hm := kin (c.ins.getD 0 0) (by
            rw [List.getD_eq_getElem?_getD, List.getElem?_eq_getElem (by omega)]
            exact List.getElem_mem _)
          exact ev_op (ev_var rfl) (ev_op (ev_op (ev_var rfl) ev_c (rv_ixT (ex_t x25 hk1) rfl)) ev_c (rv_ixT (ex_t x25 hk2) (at_map (k := 0) (by omega)))) (rv_ixL hD5 (vals_at hm.1 (by omega)))
        · rw [if_neg hk] at hy
          cases hy
    have hF : SqL K H6 f ((nextsOf C (valsOf C ins sts)).map V.int) := ex_l e6 (sq_of upd_same)
    have x56 : Ex H5 H6 := (Ex.new hf).trans e6
    have x26 : Ex H H6 := x25.trans x56
    have y26 : Ex H2 H6 := x5.trans x56
    have hD6 := ex_l x56 hD5
    have td : ∀ {σ : L2.St} {ta : TE} {i : Int} {b : Addr}, atI [V.ref t0, V.ref t1, V.ref t2] i = some (.ref b) → Ev ta σ H6 (.ref m) → Ev (tOp (rIxL K) ta (tC (.int i))) σ H6 (.ref b) := fun e h => ev_op h ev_c (rv_ixL (sq_of (x56 _ _ fm)) e)
    -- passed != [inputs, states]
    refine a_when (G := H6) (Ex.refl H6) (b := false) (et_test (ev_is (ev_opL (ev_var rfl) (el_lst (vs := [.ref li, .ref ls]) (ea_cons (ev_var rfl) (ea_cons (ev_var rfl) ea_nil)) (Nat.le_of_ble_eq_true rfl)) (fun b H7 hb e7 => rv_neD (dp_two (sq_of (e7 _ _ (y26 _ _ hr2))) (sq_of (e7 _ _ (y26 _ _ hpi))) (sq_of (e7 _ _ (y26 _ _ hps)))) (dp_two (sq_of hb) (ex_l (x26.trans e7) hI) (ex_l (x26.trans e7) hSt)) (shaped_two ins sts) (shaped_two ins sts))) (by rw [eqv_two]; rfl))) (fun hb => nomatch hb) (fun _ H7 e7 => ?_)
    have isb : ∀ {σ : L2.St} {E : XK} {ta tb : TE} {b : Addr} {xs : List Int} {c : Int}, H6 b = some (.lst (xs.map V.int)) → (xs.length : Int) = c → Bits xs → Ev ta σ H6 (.ref b) → Ev tb σ H6 (.int c) → Ev (tCall (sp_law_is_bits K) [] E (tCons ta (tCons tb tNil))) σ H6 (.bl true) := fun hb hl hB h1 h2 => ev_call1 (ea_cons h1 (ea_cons h2 ea_nil)) fun H8 x8 Q hq E => ⟨_, _, _, rfl, x8 _ _ hb, hl, hB, hq⟩
    refine a_when e7 (b := false) (et_is (et_or (et_not (et_B (isb (x56 _ _ f0) rfl vb (td rfl (ev_var rfl)) (ev_is (ev_lenS (ev_var rfl) hD6) (by rw [List.length_map]))))) fun _ => et_not (et_B (isb (x56 _ _ f1) (by unfold outsOf; rw [List.length_map]) (outs_bits vb) (td rfl (ev_var rfl)) (ev_is (ev_lenT (c2 x56 (ev_var rfl)) (ex_t x26 h4)) (by rw [List.length_map]))))) rfl) (fun hb => nomatch hb) (fun _ H8 e8 => ?_)
    have hnl : ((nextsOf C (valsOf C ins sts)).length : Int) = (sts.length : Int) := by
      rw [nexts_len, ← hW.lat]
      have := hG.2.1
      omega
    refine a_when e8 (b := false) (et_is (et_not (et_B (isb (x56 _ _ f2) hnl (nexts_bits vb) (td rfl (ev_var rfl)) (ev_is (ev_lenS (ev_var rfl) (ex_l x26 hSt)) (by rw [List.length_map]))))) rfl) (fun hb => nomatch hb) (fun _ H9 e9 => ?_)
    have et0 : ∀ {σ : L2.St} {ta tb : TE} {b c : Addr} {xs : List Int}, SqL K H6 b (xs.map V.int) → SqL K H6 c (xs.map V.int) → Ev ta σ H6 (.ref b) → Ev tb σ H6 (.ref c) → Ev (tOp (rEqD K) ta tb) σ H6 (.bl true) := fun s1 s2 h1 h2 => ev_is (ev_op h1 h2 (rv_eqInts s1 s2)) (by simp)
    refine a_ret e9 (v := .bl true) (ev_andV (a := true) (b := true) (et0 (sq_of (x56 _ _ f0)) hD6 (td rfl (ev_var rfl)) (ev_var rfl)) fun _ => ev_andV (a := true) (b := true) (ev_is (ev_opL (xs := (outsOf C (valsOf C ins sts)).map V.int) (td rfl (ev_var rfl)) ?_ (fun b H7 hb e7 => rv_eqInts (sq_of (e7 _ _ (x56 _ _ f1))) (sq_of hb))) (by simp)) fun _ => et0 (sq_of (x56 _ _ f2)) hF (td rfl (ev_var rfl)) (ev_var rfl)) (fun H10 e10 => q H10 (x26.trans e10))
    unfold outsOf
    rw [List.map_map]
    show EvL _ _ _ (C.outs.map fun x => V.int ((valsOf C ins sts).getD x.toNat 0))
    rw [← fm_map (fun x : Int => V.int ((valsOf C ins sts).getD x.toNat 0)) C.outs]
    refine el_dT (cs := C.outs) (fun x => some (V.int ((valsOf C ins sts).getD x.toNat 0))) (a := po) ?_ (ex_t x26 h4) (by rw [List.length_map]) (by have := hW.outl; omega) (fun i x c hx hc => ?_)
    · exact c2 x56 (ev_var rfl)
    have ex : x = .int c := by
      rw [List.getElem?_map, hc] at hx
      exact (Option.some.inj hx).symm
    subst ex
    have hm := hW.outs c (List.mem_of_getElem? hc)
    exact turn_mapD rfl (ev_op (ev_var rfl) (ev_var rfl) (rv_ixL hD6 (vals_at hm.1 (by omega))))

theorem cutV_mid {xs : List V} {a b : Nat} (h : a ≤ b) (hb : b ≤ xs.length) : cutV xs (some (a : Int)) (some (b : Int)) = (xs.drop a).take (b - a) := by
  unfold cutV
  rw [show HT.sIx xs.length 0 (some (a : Int)) = min a xs.length from HT.sIx_nat xs.length 0 a, show HT.sIx xs.length xs.length (some (b : Int)) = min b xs.length from HT.sIx_nat xs.length xs.length b, Nat.min_eq_left hb, Nat.min_eq_left (by omega)]
theorem ep_circ {K : PySem.W.Frag} {σ : L2.St} {G : Hp} {te : TE} (h : ∀ H1, Ex G H1 → ∀ Q : VK, (∀ C p H2, WFC C → WFD C → Ex H1 H2 → CircAt K H2 p C → Q (.ref p) H2) → te σ H1 Q) : EvP te σ G (fun w H => ∃ p C, w = .ref p ∧ WFC C ∧ WFD C ∧ CircAt K H p C) := fun H1 e Q q => h H1 e Q fun C p H2 a b e2 c => q _ H2 e2 ⟨p, C, rfl, a, b, c⟩
theorem mono_circ {K : PySem.W.Frag} : MonoP (fun w H => ∃ p C, w = .ref p ∧ WFC C ∧ WFD C ∧ CircAt K H p C) := fun _ _ _ e ⟨p, C, a, b, c, d⟩ => ⟨p, C, a, b, c, circ_mono e d⟩
/-- circuit = _law_bare(script, _law_circuit(script, m)) -/
theorem ep_drawnC {K : PySem.W.Frag} {σ : L2.St} {G : Hp} {ta tb tc : TE} {E1 E2 : XK} {l : Addr} {ns : List Int} {m : Int} (hS : SqL K G l (ns.map V.int)) (hl : ns.length ≤ 63) (m1 : 1 ≤ m) (m40 : m ≤ 40) (h1 : Ev ta σ G (.ref l)) (h2 : Ev tb σ G (.ref l)) (h3 : Ev tc σ G (.int m)) :
    EvP (tCall (sp_law_bare K) [] E1 (tCons ta (tCons (tCall (sp_law_circuit K) [] E2 (tCons tb (tCons tc tNil))) tNil))) σ G (fun w H => ∃ p C, w = .ref p ∧ WFC C ∧ WFD C ∧ CircAt K H p C) :=
  ep_callP (eap_cons (ep_of h1) mono_v (eap_cons (ep_circ fun H1 e Q q => ea_cons h2 (ea_cons h3 ea_nil) H1 e _ fun H2 e2 => ⟨l, ns, m, rfl, ex_l (e.trans e2) hS, hl, m1, m40, fun C p H3 a b e3 c => q C p H3 a b (e2.trans e3) c⟩) mono_circ eap_nil)) fun vs H1 e hv Q q E => by
    obtain ⟨v1, r1, rfl, rfl, v2, r2, rfl, ⟨p, C, rfl, hW, hD, hC⟩, hnil⟩ := hv
    rw [hnil]
    exact ⟨l, p, ns, C, rfl, ex_l e hS, hC, hW, hD, fun C2 p2 H2 a b e2 c => q _ H2 e2 ⟨p2, C2, rfl, a, b, c⟩⟩
def WrongP (K : PySem.W.Frag) (n : Nat) : V → Hp → Prop := fun w H => ∃ q ws, w = .ref q ∧ H q = some (.lst (ws.map V.int)) ∧ ¬ GoodB ws (n : Int) ∧ Small ws
theorem mono_wrong {K : PySem.W.Frag} {n : Nat} : MonoP (WrongP K n) := fun _ _ _ e ⟨q, ws, a, b, c⟩ => ⟨q, ws, a, e _ _ b, c⟩
theorem ok_law (T : Top K mg w a) : FnOk P w K mg base CX0 5 a.f_law a.d_law ["script"] (spLaw K) := by
  refine T.F_law.ok sc_law (fun vs H Q E h => ?_) (fun cdv A outer s H vs Q E hr h => ?_)
  · obtain ⟨l, ns, rfl, _⟩ := h
    rfl
  · obtain ⟨l, ns, rfl, hS, hlen, q⟩ := h
    refine ⟨_, (pss_cons (ps_set (i := 1) sc_law.nd rfl (Or.inl rfl) (pe_call (ok_law_bare T) (hr.mono (by decide)) (by rfl) T.g_law_bare T.F_law_bare.kp T.b_law_bare .nil pass0 (pa_cons (pv 0) (pa_cons (pe_call (ok_law_circuit T) (hr.mono (by decide)) (by rfl) T.g_law_circuit T.F_law_circuit.kp T.b_law_circuit .nil pass0 (pa_cons (pv 0) (pa_cons pe_int pa_nil))) pa_nil))))
      (pss_cons (ps_set (i := 2) sc_law.nd rfl (Or.inl rfl) (pe_callB call_len_seq (by rfl) T.z_len (by decide +kernel) (pa_cons (pe_ix ix_tup (pv 1) pe_int (fun _ _ => rfl)) pa_nil)))
      (pss_cons (ps_set (i := 3) sc_law.nd rfl (Or.inl rfl) (pe_call (ok_law_parts T) (hr.mono (by decide)) (by rfl) T.g_law_parts T.F_law_parts.kp T.b_law_parts .nil pass0 (pa_cons (pe_call (ok_law_cell T) (hr.mono (by decide)) (by rfl) T.g_law_cell T.F_law_cell.kp T.b_law_cell .nil pass0 (pa_cons (pv 0) (pa_cons pe_int pa_nil))) (pa_cons (pe_lst (pa_cons pe_int (pa_cons pe_int (pa_cons pe_int pa_nil)))) pa_nil))))
      (pss_cons (ps_for PassesOwn.never rfl (pi_range1 rfl T.z_range (pa_cons pe_int pa_nil)) (pg_name (i := 4) sc_law.nd rfl (Or.inl rfl))
      (pss_cons (ps_set (i := 5) sc_law.nd rfl (Or.inl rfl) (pe_call (ok_law_bits T) (hr.mono (by decide)) (by rfl) T.g_law_bits T.F_law_bits.kp T.b_law_bits .nil pass0 (pa_cons (pe_op op_add (pe_ix ix_list (pv 3) pe_int (fun _ _ => rfl)) (pv 4)) (pa_cons pe_int pa_nil))))
      (pss_cons (ps_set (i := 6) sc_law.nd rfl (Or.inl rfl) (pe_slice sl_list (pv 5) po_none (po_some (pe_ix ix_tup (pv 1) pe_int (fun _ _ => rfl)))))
      (pss_cons (ps_set (i := 7) sc_law.nd rfl (Or.inl rfl) (pe_slice sl_list (pv 5) (po_some (pe_ix ix_tup (pv 1) pe_int (fun _ _ => rfl))) (po_some (pe_op op_add (pe_ix ix_tup (pv 1) pe_int (fun _ _ => rfl)) (pv 2)))))
      (pss_one (ps_if (pt_not (pt_val (pe_call (ok_law_right_case T) (hr.mono (by decide)) (by rfl) T.g_law_right_case T.F_law_right_case.kp T.b_law_right_case .nil pass0 (pa_cons (pv 1) (pa_cons (pv 6) (pa_cons (pv 7) pa_nil))))))
      (pss_one (ps_ret pe_bl))
      pss_nil))))))
      (pss_cons (ps_if (pt_cmpR op_eq (pe_ix ix_list (pv 3) pe_int (fun _ _ => rfl)) pe_int (nomark _))
      (pss_one (ps_ret (pe_call (ok_law_refuses T) (hr.mono (by decide)) (by rfl) T.g_law_refuses T.F_law_refuses.kp T.b_law_refuses .nil pass0 (pa_cons (pv 1) (pa_cons (pe_call (ok_law_wrong T) (hr.mono (by decide)) (by rfl) T.g_law_wrong T.F_law_wrong.kp T.b_law_wrong .nil pass0 (pa_cons (pv 6) (pa_cons (pe_ix ix_list (pv 3) pe_int (fun _ _ => rfl)) pa_nil))) (pa_cons (pv 7) pa_nil))))))
      pss_nil)
      (pss_one (ps_ret (pe_call (ok_law_refuses T) (hr.mono (by decide)) (by rfl) T.g_law_refuses T.F_law_refuses.kp T.b_law_refuses .nil pass0 (pa_cons (pv 1) (pa_cons (pv 6) (pa_cons (pe_call (ok_law_wrong T) (hr.mono (by decide)) (by rfl) T.g_law_wrong T.F_law_wrong.kp T.b_law_wrong .nil pass0 (pa_cons (pv 7) (pa_cons (pe_ix ix_list (pv 3) pe_int (fun _ _ => rfl)) pa_nil))) pa_nil))))))))))), ?_⟩
    refine a_setP (Ex.refl H) (ep_drawnC hS hlen (by decide) (by decide) (ev_var rfl) (ev_var rfl) ev_c) (fun v H1 e1 hv => ?_)
    obtain ⟨p, C, rfl, hW, hD, hC⟩ := hv
    have hC' := hC
    obtain ⟨pc, po, pl, vs, h1, h2, h3, h4, h5⟩ := hC
    have n0 := hW.n0; have n6 := hW.n6; have l4 := hW.lat4
    have c0 : ∀ {σ : L2.St} {G : Hp} {ta : TE}, Ex H1 G → Ev ta σ G (.ref p) → Ev (tOp (rIxT K) ta (tC (.int 0))) σ G (.int C.n) := fun e h => ev_op h ev_c (rv_ixT (ex_t e h1) rfl)
    refine a_set (Ex.refl H1) (v := .int (C.lats.length : Int)) (ev_is (ev_lenT (ev_op (ev_var rfl) ev_c (rv_ixT h1 rfl)) h5) (by rw [List.length_map])) (fun H2 e2 => ?_)
    refine a_setN e2 (en_parts (sizes := [1024, 2, 120]) (ev_call1 (z := .int (cellOf ns 1)) (ea_cons (ev_var rfl) (ea_cons ev_c ea_nil)) fun H3 x3 Q hq E => ⟨l, ns, 1, rfl, ex_l (e1.trans x3) hS, hq⟩) (fun H1 _ => el_lst (ea_cons ev_c (ea_cons ev_c (ea_cons ev_c ea_nil))) (by decide)) (by decide) (by decide)) (fun xs r H3 hP hr3 e3 => ?_)
    obtain ⟨ps, rfl, hd⟩ := hP
    have hpl : ps.length = 3 := hd.len
    have d2 : 0 ≤ ps.getD 2 0 ∧ ps.getD 2 0 < 120 := hd.at_ 2 (by decide)
    have hPs : SqL K H3 r (ps.map V.int) := ex_l e3 (sq_of upd_same)
    have x3 : Ex H1 H3 := (Ex.new hr3).trans e3
    have pat : ∀ {σ : L2.St} {G : Hp} {ta : TE} (k : Nat), k < 3 → Ex H3 G → Ev ta σ G (.ref r) → Ev (tOp (rIxL K) ta (tC (.int (k : Int)))) σ G (.int (ps.getD k 0)) := fun k hk e h => ev_op h ev_c (rv_ixL (ex_l e hPs) (at_map (by omega)))
    refine a_forR (n := 8) (G := H3) (Ex.refl H3) (ea_cons ev_c ea_nil) ⟨by decide, by decide⟩
      (fun i σ' H' => ∃ y1 y2 y3 y4, σ' = [some (.ref l), some (.ref p), some (.int (C.lats.length : Int)), some (.ref r), y1, y2, y3, y4] ∧ Ex H3 H' ∧ (0 < i → ∃ li ls ins sts, y3 = some (.ref li) ∧ y4 = some (.ref ls) ∧ SqL K H' li (ins.map V.int) ∧ SqL K H' ls (sts.map V.int) ∧ GoodV C ins sts ∧ Small ins ∧ Small sts))
      (fun H4 e4 => ⟨none, none, none, none, rfl, e4, fun h => absurd h (Nat.lt_irrefl 0)⟩) ?_ ?_
    · rintro i σ' H' hi ⟨y1, y2, y3, y4, rfl, e4, _⟩
      refine a_setN (Ex.refl H') (P := fun xs => ∃ bs, xs = bs.map V.int ∧ Bits bs ∧ bs.length = 10) (en_call (ea_cons (ev_op (pat 0 (by decide) e4 (ev_var rfl)) (ev_var rfl) rv_I0) (ea_cons ev_c ea_nil)) fun H1 _ Q q E => ⟨_, 10, rfl, by decide, by decide, fun bs hB hl p H2 h1 h2 h3 => q _ p H2 ⟨bs, rfl, hB, hl⟩ h1 h2 h3⟩) (fun xs b H5 hP hb5 e5 => ?_)
      obtain ⟨bs, rfl, hB, hbl⟩ := hP
      have hBs : SqL K H5 b (bs.map V.int) := ex_l e5 (sq_of upd_same)
      have x5 : Ex H' H5 := (Ex.new hb5).trans e5
      have hgood := good_bits hB hbl hW
      have eN : C.n = (C.n.toNat : Int) := by omega
      refine a_setL (Ex.refl H5) (xs := (bs.take C.n.toNat).map V.int) (by
        rw [List.map_take, ← cutV_to (n := C.n.toNat), ← eN]
        exact el_sl (ev_var rfl) eo_none (eo_some (c0 (x3.trans (e4.trans x5)) (ev_var rfl))) hBs) (fun li H6 hli e6 => ?_)
      have hI6 : SqL K H6 li ((bs.take C.n.toNat).map V.int) := ex_l e6 (sq_of upd_same)
      have x6 : Ex H5 H6 := (Ex.new hli).trans e6
      refine a_setL (Ex.refl H6) (xs := ((bs.drop C.n.toNat).take C.lats.length).map V.int) (by
        have em : ((bs.drop C.n.toNat).take C.lats.length).map V.int = cutV (bs.map V.int) (some C.n) (some (C.n + (C.lats.length : Int))) := by
          have e1 : C.n + (C.lats.length : Int) = ((C.n.toNat + C.lats.length : Nat) : Int) := by omega
          have := cutV_mid (xs := bs.map V.int) (a := C.n.toNat) (b := C.n.toNat + C.lats.length) (by omega) (by rw [List.length_map]; omega)
          rw [← e1, ← eN, Nat.add_sub_cancel_left] at this
          rw [this, List.map_take, List.map_drop]
        rw [em]
        exact el_sl (ev_var rfl) (eo_some (c0 (x3.trans (e4.trans (x5.trans x6))) (ev_var rfl))) (eo_some (ev_op (c0 (x3.trans (e4.trans (x5.trans x6))) (ev_var rfl)) (ev_var rfl) rv_I0)) (ex_l x6 hBs)) (fun ls H7 hls e7 => ?_)
      have hI7 : SqL K H7 li ((bs.take C.n.toNat).map V.int) := ex_l ((Ex.new hls).trans e7) hI6
      have hS7 : SqL K H7 ls (((bs.drop C.n.toNat).take C.lats.length).map V.int) := ex_l e7 (sq_of upd_same)
      have x7 : Ex H' H7 := (x5.trans x6).trans ((Ex.new hls).trans e7)
      have smB := bits_small hB (by omega)
      have s1 := small_take smB C.n.toNat
      have s2 := small_take (small_drop smB C.n.toNat) C.lats.length
      refine a_when1 (Ex.refl H7) (b := false) (et_not (et_B (ev_call1 (z := .bl true) (ea_cons (ev_var rfl) (ea_cons (ev_var rfl) (ea_cons (ev_var rfl) ea_nil))) fun H8 y8 Q hq E => ⟨p, li, ls, C, _, _, rfl, circ_mono (x3.trans (e4.trans (x7.trans y8))) hC', hW, ex_l y8 hI7, ex_l y8 hS7, s1, s2, hgood, hq⟩))) (fun hb => nomatch hb) (fun _ H8 e8 => ?_)
      exact ⟨_, _, _, _, rfl, e4.trans (x7.trans e8), fun _ => ⟨li, ls, _, _, rfl, rfl, ex_l e8 hI7, ex_l e8 hS7, hgood, s1, s2⟩⟩
    · rintro σ' H' ⟨y1, y2, y3, y4, rfl, e4, hg⟩
      obtain ⟨li, ls, ins, sts, rfl, rfl, hI, hSt, hG, s1, s2⟩ := hg (by decide)
      have hil : (ins.length : Int) = C.n := hG.1.1
      have hsl : (sts.length : Int) = (C.lats.length : Int) := hG.2.1
      have wr : ∀ {σ : L2.St} {E : XK} {ta tb : TE} {lb : Addr} {bs : List Int}, SqL K H' lb (bs.map V.int) → Bits bs → bs.length ≤ 900 → Ev ta σ H' (.ref lb) → Ev tb σ H' (.int (ps.getD 2 0)) → EvP (tCall (sp_law_wrong K) [] E (tCons ta (tCons tb tNil))) σ H' (WrongP K bs.length) := fun hs hB hl h1 h2 =>
        ep_call (ea_cons h1 (ea_cons h2 ea_nil)) fun H5 y5 Q q E => ⟨_, _, _, rfl, ex_l y5 hs, hl, hB, d2.1, by omega, fun ws hw hsm p H6 hp e6 h6 => q _ H6 e6 ⟨p, ws, rfl, h6, hw, hsm⟩⟩
      refine a_when (Ex.refl H') (et_test (ev_op (pat 1 (by decide) e4 (ev_var rfl)) ev_c (rv_eq rfl))) (fun hb H5 e5 => ?_) (fun hb H5 e5 => ?_)
      · refine a_retP e5 (P := fun v _ => v = .bl true) (ep_callP (eap_cons (ep_of (ev_var rfl)) mono_v (eap_cons (wr hI hG.1.2 (by omega) (ev_var rfl) (pat 2 (by decide) e4 (ev_var rfl))) mono_wrong (eap_cons (ep_of (ev_var rfl)) mono_v eap_nil))) fun vs H6 e6 hv Q q E => ?_) (fun v H6 _ hv => by rw [hv]; exact q H6)
        obtain ⟨v1, r1, rfl, rfl, v2, r2, rfl, ⟨w, ws, rfl, hw, hbad, hsm⟩, v3, r3, rfl, rfl, hnil⟩ := hv
        rw [hnil]
        exact ⟨p, w, ls, C, ws, sts, rfl, circ_mono (x3.trans (e4.trans e6)) hC', hW, sq_of hw, ex_l e6 hSt, hsm, s2, fun g => hbad (by rw [hil]; exact g.1), fun H7 e7 => q _ H7 e7 rfl⟩
      · refine a_retP e5 (P := fun v _ => v = .bl true) (ep_callP (eap_cons (ep_of (ev_var rfl)) mono_v (eap_cons (ep_of (ev_var rfl)) mono_v (eap_cons (wr hSt hG.2.2 (by omega) (ev_var rfl) (pat 2 (by decide) e4 (ev_var rfl))) mono_wrong eap_nil))) fun vs H6 e6 hv Q q E => ?_) (fun v H6 _ hv => by rw [hv]; exact q H6)
        obtain ⟨v1, r1, rfl, rfl, v2, r2, rfl, rfl, v3, r3, rfl, ⟨w, ws, rfl, hw, hbad, hsm⟩, hnil⟩ := hv
        rw [hnil]
        exact ⟨p, li, w, C, ins, ws, rfl, circ_mono (x3.trans (e4.trans e6)) hC', hW, ex_l e6 hI, sq_of hw, s1, hsm, fun g => hbad (by rw [hsl]; exact g.2), fun H7 e7 => q _ H7 e7 rfl⟩


end
theorem all_mk {l : PySem.W.OpenLaw} {w : World} {K : PySem.W.Frag} {h : Heap} {mg : Str → Option Value} {fa : Addr} (X : K.In h) (G : h.Ns mainGlobals mg) (hfa : mg "law" = some (.ref fa))
    {f_check_bits : Addr} {od_check_bits an_check_bits : Option Addr} {sl_check_bits : Array (Option Value)} {oc_check_bits kV_check_bits dc_check_bits pm_check_bits cd_check_bits ct_check_bits : Value}
    {f_cell_value : Addr} {od_cell_value an_cell_value : Option Addr} {sl_cell_value : Array (Option Value)} {oc_cell_value kV_cell_value dc_cell_value pm_cell_value cd_cell_value ct_cell_value : Value}
    {f_cell_values : Addr} {od_cell_values an_cell_values : Option Addr} {sl_cell_values : Array (Option Value)} {oc_cell_values kV_cell_values dc_cell_values pm_cell_values cd_cell_values ct_cell_values : Value}
    {f_circuit_outputs : Addr} {od_circuit_outputs an_circuit_outputs : Option Addr} {sl_circuit_outputs : Array (Option Value)} {oc_circuit_outputs kV_circuit_outputs dc_circuit_outputs pm_circuit_outputs cd_circuit_outputs ct_circuit_outputs : Value}
    {f_circuit_next : Addr} {od_circuit_next an_circuit_next : Option Addr} {sl_circuit_next : Array (Option Value)} {oc_circuit_next kV_circuit_next dc_circuit_next pm_circuit_next cd_circuit_next ct_circuit_next : Value}
    {f_law_cell : Addr} {od_law_cell an_law_cell : Option Addr} {sl_law_cell : Array (Option Value)} {oc_law_cell kV_law_cell dc_law_cell pm_law_cell cd_law_cell ct_law_cell : Value}
    {f_law_parts : Addr} {od_law_parts an_law_parts : Option Addr} {sl_law_parts : Array (Option Value)} {oc_law_parts kV_law_parts dc_law_parts pm_law_parts cd_law_parts ct_law_parts : Value}
    {f_law_is_integer : Addr} {od_law_is_integer an_law_is_integer : Option Addr} {sl_law_is_integer : Array (Option Value)} {oc_law_is_integer kV_law_is_integer dc_law_is_integer pm_law_is_integer cd_law_is_integer ct_law_is_integer : Value}
    {f_law_is_bits : Addr} {od_law_is_bits an_law_is_bits : Option Addr} {sl_law_is_bits : Array (Option Value)} {oc_law_is_bits kV_law_is_bits dc_law_is_bits pm_law_is_bits cd_law_is_bits ct_law_is_bits : Value}
    {f_law_bits : Addr} {od_law_bits an_law_bits : Option Addr} {sl_law_bits : Array (Option Value)} {oc_law_bits kV_law_bits dc_law_bits pm_law_bits cd_law_bits ct_law_bits : Value}
    {f_law_wrong : Addr} {od_law_wrong an_law_wrong : Option Addr} {sl_law_wrong : Array (Option Value)} {oc_law_wrong kV_law_wrong dc_law_wrong pm_law_wrong cd_law_wrong ct_law_wrong : Value}
    {f_law_kind : Addr} {od_law_kind an_law_kind : Option Addr} {sl_law_kind : Array (Option Value)} {oc_law_kind kV_law_kind dc_law_kind pm_law_kind cd_law_kind ct_law_kind : Value}
    {f_law_drawn : Addr} {od_law_drawn an_law_drawn : Option Addr} {sl_law_drawn : Array (Option Value)} {oc_law_drawn kV_law_drawn dc_law_drawn pm_law_drawn cd_law_drawn ct_law_drawn : Value}
    {f_law_circuit : Addr} {od_law_circuit an_law_circuit : Option Addr} {sl_law_circuit : Array (Option Value)} {oc_law_circuit kV_law_circuit dc_law_circuit pm_law_circuit cd_law_circuit ct_law_circuit : Value}
    {f_law_value : Addr} {od_law_value an_law_value : Option Addr} {sl_law_value : Array (Option Value)} {oc_law_value kV_law_value dc_law_value pm_law_value cd_law_value ct_law_value : Value}
    {f_law_values : Addr} {od_law_values an_law_values : Option Addr} {sl_law_values : Array (Option Value)} {oc_law_values kV_law_values dc_law_values pm_law_values cd_law_values ct_law_values : Value}
    {f_law_refuses : Addr} {od_law_refuses an_law_refuses : Option Addr} {sl_law_refuses : Array (Option Value)} {oc_law_refuses kV_law_refuses dc_law_refuses pm_law_refuses cd_law_refuses ct_law_refuses : Value}
    {f_law_right_case : Addr} {od_law_right_case an_law_right_case : Option Addr} {sl_law_right_case : Array (Option Value)} {oc_law_right_case kV_law_right_case dc_law_right_case pm_law_right_case cd_law_right_case ct_law_right_case : Value}
    {f_law_bare : Addr} {od_law_bare an_law_bare : Option Addr} {sl_law_bare : Array (Option Value)} {oc_law_bare kV_law_bare dc_law_bare pm_law_bare cd_law_bare ct_law_bare : Value}
    {f_law : Addr} {od_law an_law : Option Addr} {sl_law : Array (Option Value)} {oc_law kV_law dc_law pm_law cd_law ct_law : Value}
    {C_GatesError : Addr}
    {C_InvalidValues : Addr}
    (aC_GatesError : PySem.W.nsIn K mainGlobals "GatesError" = some (some (.ref C_GatesError)))
    (aC_InvalidValues : PySem.W.nsIn K mainGlobals "InvalidValues" = some (some (.ref C_InvalidValues)))
    (x_GatesError : PySem.W.excIn K C_GatesError [.type "ValueError", .type "Exception", .type "BaseException", .type "object"] "ValueError.__new__" = true)
    (k_GatesError : PySem.W.keepIn K (.ref C_GatesError) = true)
    (b_GatesError : PySem.W.subIn K (.ref C_GatesError) (.type "BaseException") = some true)
    (t_GatesError : PySem.W.typeIn K (.ref C_GatesError) = some (.type "type"))
    (ic_GatesError : PySem.W.isClsIn K C_GatesError = true)
    (s_GatesError_GatesError : PySem.W.subIn K (.ref C_GatesError) (.ref C_GatesError) = some true)
    (x_InvalidValues : PySem.W.excIn K C_InvalidValues [.type "ValueError", .type "Exception", .type "BaseException", .type "object"] "ValueError.__new__" = true)
    (k_InvalidValues : PySem.W.keepIn K (.ref C_InvalidValues) = true)
    (b_InvalidValues : PySem.W.subIn K (.ref C_InvalidValues) (.type "BaseException") = some true)
    (t_InvalidValues : PySem.W.typeIn K (.ref C_InvalidValues) = some (.type "type"))
    (ic_InvalidValues : PySem.W.isClsIn K C_InvalidValues = true)
    (s_InvalidValues_InvalidValues : PySem.W.subIn K (.ref C_InvalidValues) (.ref C_InvalidValues) = some true)
    (s_InvalidValues_GatesError : PySem.W.subIn K (.ref C_InvalidValues) (.ref C_GatesError) = some true)
    (a_check_bits : PySem.W.nsIn K mainGlobals "check_bits" = some (some (.ref f_check_bits)))
    (l_check_bits : K.lookup f_check_bits = some ⟨oc_check_bits, od_check_bits, .func (PySem.W.fnOf "check_bits" "check_bits" (defArgs s_check_bits) (defBody s_check_bits) (defScope s_check_bits) .none kV_check_bits dc_check_bits pm_check_bits an_check_bits cd_check_bits ct_check_bits), sl_check_bits⟩)
    (c_check_bits : PySem.W.codeIn K cd_check_bits "check_bits" = true)
    (k_check_bits : PySem.W.keepIn K (.ref f_check_bits) = true)
    (a_cell_value : PySem.W.nsIn K mainGlobals "cell_value" = some (some (.ref f_cell_value)))
    (l_cell_value : K.lookup f_cell_value = some ⟨oc_cell_value, od_cell_value, .func (PySem.W.fnOf "cell_value" "cell_value" (defArgs s_cell_value) (defBody s_cell_value) (defScope s_cell_value) .none kV_cell_value dc_cell_value pm_cell_value an_cell_value cd_cell_value ct_cell_value), sl_cell_value⟩)
    (c_cell_value : PySem.W.codeIn K cd_cell_value "cell_value" = true)
    (k_cell_value : PySem.W.keepIn K (.ref f_cell_value) = true)
    (a_cell_values : PySem.W.nsIn K mainGlobals "cell_values" = some (some (.ref f_cell_values)))
    (l_cell_values : K.lookup f_cell_values = some ⟨oc_cell_values, od_cell_values, .func (PySem.W.fnOf "cell_values" "cell_values" (defArgs s_cell_values) (defBody s_cell_values) (defScope s_cell_values) .none kV_cell_values dc_cell_values pm_cell_values an_cell_values cd_cell_values ct_cell_values), sl_cell_values⟩)
    (c_cell_values : PySem.W.codeIn K cd_cell_values "cell_values" = true)
    (k_cell_values : PySem.W.keepIn K (.ref f_cell_values) = true)
    (a_circuit_outputs : PySem.W.nsIn K mainGlobals "circuit_outputs" = some (some (.ref f_circuit_outputs)))
    (l_circuit_outputs : K.lookup f_circuit_outputs = some ⟨oc_circuit_outputs, od_circuit_outputs, .func (PySem.W.fnOf "circuit_outputs" "circuit_outputs" (defArgs s_circuit_outputs) (defBody s_circuit_outputs) (defScope s_circuit_outputs) .none kV_circuit_outputs dc_circuit_outputs pm_circuit_outputs an_circuit_outputs cd_circuit_outputs ct_circuit_outputs), sl_circuit_outputs⟩)
    (c_circuit_outputs : PySem.W.codeIn K cd_circuit_outputs "circuit_outputs" = true)
    (k_circuit_outputs : PySem.W.keepIn K (.ref f_circuit_outputs) = true)
    (a_circuit_next : PySem.W.nsIn K mainGlobals "circuit_next" = some (some (.ref f_circuit_next)))
    (l_circuit_next : K.lookup f_circuit_next = some ⟨oc_circuit_next, od_circuit_next, .func (PySem.W.fnOf "circuit_next" "circuit_next" (defArgs s_circuit_next) (defBody s_circuit_next) (defScope s_circuit_next) .none kV_circuit_next dc_circuit_next pm_circuit_next an_circuit_next cd_circuit_next ct_circuit_next), sl_circuit_next⟩)
    (c_circuit_next : PySem.W.codeIn K cd_circuit_next "circuit_next" = true)
    (k_circuit_next : PySem.W.keepIn K (.ref f_circuit_next) = true)
    (a_law_cell : PySem.W.nsIn K mainGlobals "_law_cell" = some (some (.ref f_law_cell)))
    (l_law_cell : K.lookup f_law_cell = some ⟨oc_law_cell, od_law_cell, .func (PySem.W.fnOf "_law_cell" "_law_cell" (defArgs s_law_cell) (defBody s_law_cell) (defScope s_law_cell) .none kV_law_cell dc_law_cell pm_law_cell an_law_cell cd_law_cell ct_law_cell), sl_law_cell⟩)
    (c_law_cell : PySem.W.codeIn K cd_law_cell "_law_cell" = true)
    (k_law_cell : PySem.W.keepIn K (.ref f_law_cell) = true)
    (a_law_parts : PySem.W.nsIn K mainGlobals "_law_parts" = some (some (.ref f_law_parts)))
    (l_law_parts : K.lookup f_law_parts = some ⟨oc_law_parts, od_law_parts, .func (PySem.W.fnOf "_law_parts" "_law_parts" (defArgs s_law_parts) (defBody s_law_parts) (defScope s_law_parts) .none kV_law_parts dc_law_parts pm_law_parts an_law_parts cd_law_parts ct_law_parts), sl_law_parts⟩)
    (c_law_parts : PySem.W.codeIn K cd_law_parts "_law_parts" = true)
    (k_law_parts : PySem.W.keepIn K (.ref f_law_parts) = true)
    (a_law_is_integer : PySem.W.nsIn K mainGlobals "_law_is_integer" = some (some (.ref f_law_is_integer)))
    (l_law_is_integer : K.lookup f_law_is_integer = some ⟨oc_law_is_integer, od_law_is_integer, .func (PySem.W.fnOf "_law_is_integer" "_law_is_integer" (defArgs s_law_is_integer) (defBody s_law_is_integer) (defScope s_law_is_integer) .none kV_law_is_integer dc_law_is_integer pm_law_is_integer an_law_is_integer cd_law_is_integer ct_law_is_integer), sl_law_is_integer⟩)
    (c_law_is_integer : PySem.W.codeIn K cd_law_is_integer "_law_is_integer" = true)
    (k_law_is_integer : PySem.W.keepIn K (.ref f_law_is_integer) = true)
    (a_law_is_bits : PySem.W.nsIn K mainGlobals "_law_is_bits" = some (some (.ref f_law_is_bits)))
    (l_law_is_bits : K.lookup f_law_is_bits = some ⟨oc_law_is_bits, od_law_is_bits, .func (PySem.W.fnOf "_law_is_bits" "_law_is_bits" (defArgs s_law_is_bits) (defBody s_law_is_bits) (defScope s_law_is_bits) .none kV_law_is_bits dc_law_is_bits pm_law_is_bits an_law_is_bits cd_law_is_bits ct_law_is_bits), sl_law_is_bits⟩)
    (c_law_is_bits : PySem.W.codeIn K cd_law_is_bits "_law_is_bits" = true)
    (k_law_is_bits : PySem.W.keepIn K (.ref f_law_is_bits) = true)
    (a_law_bits : PySem.W.nsIn K mainGlobals "_law_bits" = some (some (.ref f_law_bits)))
    (l_law_bits : K.lookup f_law_bits = some ⟨oc_law_bits, od_law_bits, .func (PySem.W.fnOf "_law_bits" "_law_bits" (defArgs s_law_bits) (defBody s_law_bits) (defScope s_law_bits) .none kV_law_bits dc_law_bits pm_law_bits an_law_bits cd_law_bits ct_law_bits), sl_law_bits⟩)
    (c_law_bits : PySem.W.codeIn K cd_law_bits "_law_bits" = true)
    (k_law_bits : PySem.W.keepIn K (.ref f_law_bits) = true)
    (a_law_wrong : PySem.W.nsIn K mainGlobals "_law_wrong" = some (some (.ref f_law_wrong)))
    (l_law_wrong : K.lookup f_law_wrong = some ⟨oc_law_wrong, od_law_wrong, .func (PySem.W.fnOf "_law_wrong" "_law_wrong" (defArgs s_law_wrong) (defBody s_law_wrong) (defScope s_law_wrong) .none kV_law_wrong dc_law_wrong pm_law_wrong an_law_wrong cd_law_wrong ct_law_wrong), sl_law_wrong⟩)
    (c_law_wrong : PySem.W.codeIn K cd_law_wrong "_law_wrong" = true)
    (k_law_wrong : PySem.W.keepIn K (.ref f_law_wrong) = true)
    (a_law_kind : PySem.W.nsIn K mainGlobals "_law_kind" = some (some (.ref f_law_kind)))
    (l_law_kind : K.lookup f_law_kind = some ⟨oc_law_kind, od_law_kind, .func (PySem.W.fnOf "_law_kind" "_law_kind" (defArgs s_law_kind) (defBody s_law_kind) (defScope s_law_kind) .none kV_law_kind dc_law_kind pm_law_kind an_law_kind cd_law_kind ct_law_kind), sl_law_kind⟩)
    (c_law_kind : PySem.W.codeIn K cd_law_kind "_law_kind" = true)
    (k_law_kind : PySem.W.keepIn K (.ref f_law_kind) = true)
    (a_law_drawn : PySem.W.nsIn K mainGlobals "_law_drawn" = some (some (.ref f_law_drawn)))
    (l_law_drawn : K.lookup f_law_drawn = some ⟨oc_law_drawn, od_law_drawn, .func (PySem.W.fnOf "_law_drawn" "_law_drawn" (defArgs s_law_drawn) (defBody s_law_drawn) (defScope s_law_drawn) .none kV_law_drawn dc_law_drawn pm_law_drawn an_law_drawn cd_law_drawn ct_law_drawn), sl_law_drawn⟩)
    (c_law_drawn : PySem.W.codeIn K cd_law_drawn "_law_drawn" = true)
    (k_law_drawn : PySem.W.keepIn K (.ref f_law_drawn) = true)
    (a_law_circuit : PySem.W.nsIn K mainGlobals "_law_circuit" = some (some (.ref f_law_circuit)))
    (l_law_circuit : K.lookup f_law_circuit = some ⟨oc_law_circuit, od_law_circuit, .func (PySem.W.fnOf "_law_circuit" "_law_circuit" (defArgs s_law_circuit) (defBody s_law_circuit) (defScope s_law_circuit) .none kV_law_circuit dc_law_circuit pm_law_circuit an_law_circuit cd_law_circuit ct_law_circuit), sl_law_circuit⟩)
    (c_law_circuit : PySem.W.codeIn K cd_law_circuit "_law_circuit" = true)
    (k_law_circuit : PySem.W.keepIn K (.ref f_law_circuit) = true)
    (a_law_value : PySem.W.nsIn K mainGlobals "_law_value" = some (some (.ref f_law_value)))
    (l_law_value : K.lookup f_law_value = some ⟨oc_law_value, od_law_value, .func (PySem.W.fnOf "_law_value" "_law_value" (defArgs s_law_value) (defBody s_law_value) (defScope s_law_value) .none kV_law_value dc_law_value pm_law_value an_law_value cd_law_value ct_law_value), sl_law_value⟩)
    (c_law_value : PySem.W.codeIn K cd_law_value "_law_value" = true)
    (k_law_value : PySem.W.keepIn K (.ref f_law_value) = true)
    (a_law_values : PySem.W.nsIn K mainGlobals "_law_values" = some (some (.ref f_law_values)))
    (l_law_values : K.lookup f_law_values = some ⟨oc_law_values, od_law_values, .func (PySem.W.fnOf "_law_values" "_law_values" (defArgs s_law_values) (defBody s_law_values) (defScope s_law_values) .none kV_law_values dc_law_values pm_law_values an_law_values cd_law_values ct_law_values), sl_law_values⟩)
    (c_law_values : PySem.W.codeIn K cd_law_values "_law_values" = true)
    (k_law_values : PySem.W.keepIn K (.ref f_law_values) = true)
    (a_law_refuses : PySem.W.nsIn K mainGlobals "_law_refuses" = some (some (.ref f_law_refuses)))
    (l_law_refuses : K.lookup f_law_refuses = some ⟨oc_law_refuses, od_law_refuses, .func (PySem.W.fnOf "_law_refuses" "_law_refuses" (defArgs s_law_refuses) (defBody s_law_refuses) (defScope s_law_refuses) .none kV_law_refuses dc_law_refuses pm_law_refuses an_law_refuses cd_law_refuses ct_law_refuses), sl_law_refuses⟩)
    (c_law_refuses : PySem.W.codeIn K cd_law_refuses "_law_refuses" = true)
    (k_law_refuses : PySem.W.keepIn K (.ref f_law_refuses) = true)
    (a_law_right_case : PySem.W.nsIn K mainGlobals "_law_right_case" = some (some (.ref f_law_right_case)))
    (l_law_right_case : K.lookup f_law_right_case = some ⟨oc_law_right_case, od_law_right_case, .func (PySem.W.fnOf "_law_right_case" "_law_right_case" (defArgs s_law_right_case) (defBody s_law_right_case) (defScope s_law_right_case) .none kV_law_right_case dc_law_right_case pm_law_right_case an_law_right_case cd_law_right_case ct_law_right_case), sl_law_right_case⟩)
    (c_law_right_case : PySem.W.codeIn K cd_law_right_case "_law_right_case" = true)
    (k_law_right_case : PySem.W.keepIn K (.ref f_law_right_case) = true)
    (a_law_bare : PySem.W.nsIn K mainGlobals "_law_bare" = some (some (.ref f_law_bare)))
    (l_law_bare : K.lookup f_law_bare = some ⟨oc_law_bare, od_law_bare, .func (PySem.W.fnOf "_law_bare" "_law_bare" (defArgs s_law_bare) (defBody s_law_bare) (defScope s_law_bare) .none kV_law_bare dc_law_bare pm_law_bare an_law_bare cd_law_bare ct_law_bare), sl_law_bare⟩)
    (c_law_bare : PySem.W.codeIn K cd_law_bare "_law_bare" = true)
    (k_law_bare : PySem.W.keepIn K (.ref f_law_bare) = true)
    (a_law : PySem.W.nsIn K mainGlobals "law" = some (some (.ref f_law)))
    (l_law : K.lookup f_law = some ⟨oc_law, od_law, .func (PySem.W.fnOf "law" "law" (defArgs s_law) (defBody s_law) (defScope s_law) .none kV_law dc_law pm_law an_law cd_law ct_law), sl_law⟩)
    (c_law : PySem.W.codeIn K cd_law "law" = true)
    (k_law : PySem.W.keepIn K (.ref f_law) = true)
    (z_bool : PySem.W.nsIn K mainGlobals "bool" = some none)
    (z_int : PySem.W.nsIn K mainGlobals "int" = some none)
    (z_isinstance : PySem.W.nsIn K mainGlobals "isinstance" = some none)
    (z_len : PySem.W.nsIn K mainGlobals "len" = some none)
    (z_list : PySem.W.nsIn K mainGlobals "list" = some none)
    (z_max : PySem.W.nsIn K mainGlobals "max" = some none)
    (z_min : PySem.W.nsIn K mainGlobals "min" = some none)
    (z_range : PySem.W.nsIn K mainGlobals "range" = some none)
    (z_sum : PySem.W.nsIn K mainGlobals "sum" = some none)
    (z_tuple : PySem.W.nsIn K mainGlobals "tuple" = some none)
    : ∃ fd : FuncData, (∀ (s : Shared) (v : Value), BindsTo s fd ⟨[v], []⟩ [("script", v)]) ∧ ∀ base : Heap, K.In base → base.Ns mainGlobals mg → FnOk l.prog w K mg base CX0 5 fa fd ["script"] (spLaw K) := by
  have e := hfa.symm.trans (PySem.W.mg_of X G a_law)
  cases e
  have F_check_bits := fun_mk (st := s_check_bits) l_check_bits c_check_bits k_check_bits
  have b_check_bits := F_check_bits.binds (ps := ["values", "count"]) fun _ _ _ _ _ _ us hl => match us, hl with | [_, _], _ => rfl
  have F_cell_value := fun_mk (st := s_cell_value) l_cell_value c_cell_value k_cell_value
  have b_cell_value := F_cell_value.binds (ps := ["kind", "values"]) fun _ _ _ _ _ _ us hl => match us, hl with | [_, _], _ => rfl
  have F_cell_values := fun_mk (st := s_cell_values) l_cell_values c_cell_values k_cell_values
  have b_cell_values := F_cell_values.binds (ps := ["circuit", "inputs", "states"]) fun _ _ _ _ _ _ us hl => match us, hl with | [_, _, _], _ => rfl
  have F_circuit_outputs := fun_mk (st := s_circuit_outputs) l_circuit_outputs c_circuit_outputs k_circuit_outputs
  have b_circuit_outputs := F_circuit_outputs.binds (ps := ["circuit", "inputs", "states"]) fun _ _ _ _ _ _ us hl => match us, hl with | [_, _, _], _ => rfl
  have F_circuit_next := fun_mk (st := s_circuit_next) l_circuit_next c_circuit_next k_circuit_next
  have b_circuit_next := F_circuit_next.binds (ps := ["circuit", "inputs", "states"]) fun _ _ _ _ _ _ us hl => match us, hl with | [_, _, _], _ => rfl
  have F_law_cell := fun_mk (st := s_law_cell) l_law_cell c_law_cell k_law_cell
  have b_law_cell := F_law_cell.binds (ps := ["script", "k"]) fun _ _ _ _ _ _ us hl => match us, hl with | [_, _], _ => rfl
  have F_law_parts := fun_mk (st := s_law_parts) l_law_parts c_law_parts k_law_parts
  have b_law_parts := F_law_parts.binds (ps := ["cell", "sizes"]) fun _ _ _ _ _ _ us hl => match us, hl with | [_, _], _ => rfl
  have F_law_is_integer := fun_mk (st := s_law_is_integer) l_law_is_integer c_law_is_integer k_law_is_integer
  have b_law_is_integer := F_law_is_integer.binds (ps := ["actual"]) fun _ _ _ _ _ _ us hl => match us, hl with | [_], _ => rfl
  have F_law_is_bits := fun_mk (st := s_law_is_bits) l_law_is_bits c_law_is_bits k_law_is_bits
  have b_law_is_bits := F_law_is_bits.binds (ps := ["actual", "count"]) fun _ _ _ _ _ _ us hl => match us, hl with | [_, _], _ => rfl
  have F_law_bits := fun_mk (st := s_law_bits) l_law_bits c_law_bits k_law_bits
  have b_law_bits := F_law_bits.binds (ps := ["number", "count"]) fun _ _ _ _ _ _ us hl => match us, hl with | [_, _], _ => rfl
  have F_law_wrong := fun_mk (st := s_law_wrong) l_law_wrong c_law_wrong k_law_wrong
  have b_law_wrong := F_law_wrong.binds (ps := ["bits", "choice"]) fun _ _ _ _ _ _ us hl => match us, hl with | [_, _], _ => rfl
  have F_law_kind := fun_mk (st := s_law_kind) l_law_kind c_law_kind k_law_kind
  have b_law_kind := F_law_kind.binds (ps := ["parts", "nets", "latches"]) fun _ _ _ _ _ _ us hl => match us, hl with | [_, _, _], _ => rfl
  have F_law_drawn := fun_mk (st := s_law_drawn) l_law_drawn c_law_drawn k_law_drawn
  have b_law_drawn := F_law_drawn.binds (ps := ["parts", "count", "nets"]) fun _ _ _ _ _ _ us hl => match us, hl with | [_, _, _], _ => rfl
  have F_law_circuit := fun_mk (st := s_law_circuit) l_law_circuit c_law_circuit k_law_circuit
  have b_law_circuit := F_law_circuit.binds (ps := ["script", "most"]) fun _ _ _ _ _ _ us hl => match us, hl with | [_, _], _ => rfl
  have F_law_value := fun_mk (st := s_law_value) l_law_value c_law_value k_law_value
  have b_law_value := F_law_value.binds (ps := ["kind", "bits"]) fun _ _ _ _ _ _ us hl => match us, hl with | [_, _], _ => rfl
  have F_law_values := fun_mk (st := s_law_values) l_law_values c_law_values k_law_values
  have b_law_values := F_law_values.binds (ps := ["circuit", "inputs", "states"]) fun _ _ _ _ _ _ us hl => match us, hl with | [_, _, _], _ => rfl
  have F_law_refuses := fun_mk (st := s_law_refuses) l_law_refuses c_law_refuses k_law_refuses
  have b_law_refuses := F_law_refuses.binds (ps := ["circuit", "inputs", "states"]) fun _ _ _ _ _ _ us hl => match us, hl with | [_, _, _], _ => rfl
  have F_law_right_case := fun_mk (st := s_law_right_case) l_law_right_case c_law_right_case k_law_right_case
  have b_law_right_case := F_law_right_case.binds (ps := ["circuit", "inputs", "states"]) fun _ _ _ _ _ _ us hl => match us, hl with | [_, _, _], _ => rfl
  have F_law_bare := fun_mk (st := s_law_bare) l_law_bare c_law_bare k_law_bare
  have b_law_bare := F_law_bare.binds (ps := ["script", "circuit"]) fun _ _ _ _ _ _ us hl => match us, hl with | [_, _], _ => rfl
  have F_law := fun_mk (st := s_law) l_law c_law k_law
  have b_law := F_law.binds (ps := ["script"]) fun _ _ _ _ _ _ us hl => match us, hl with | [_], _ => rfl
  let a : A := { f_check_bits := f_check_bits, d_check_bits := PySem.W.fnOf "check_bits" "check_bits" (defArgs s_check_bits) (defBody s_check_bits) (defScope s_check_bits) .none kV_check_bits dc_check_bits pm_check_bits an_check_bits cd_check_bits ct_check_bits, f_cell_value := f_cell_value, d_cell_value := PySem.W.fnOf "cell_value" "cell_value" (defArgs s_cell_value) (defBody s_cell_value) (defScope s_cell_value) .none kV_cell_value dc_cell_value pm_cell_value an_cell_value cd_cell_value ct_cell_value, f_cell_values := f_cell_values, d_cell_values := PySem.W.fnOf "cell_values" "cell_values" (defArgs s_cell_values) (defBody s_cell_values) (defScope s_cell_values) .none kV_cell_values dc_cell_values pm_cell_values an_cell_values cd_cell_values ct_cell_values, f_circuit_outputs := f_circuit_outputs, d_circuit_outputs := PySem.W.fnOf "circuit_outputs" "circuit_outputs" (defArgs s_circuit_outputs) (defBody s_circuit_outputs) (defScope s_circuit_outputs) .none kV_circuit_outputs dc_circuit_outputs pm_circuit_outputs an_circuit_outputs cd_circuit_outputs ct_circuit_outputs, f_circuit_next := f_circuit_next, d_circuit_next := PySem.W.fnOf "circuit_next" "circuit_next" (defArgs s_circuit_next) (defBody s_circuit_next) (defScope s_circuit_next) .none kV_circuit_next dc_circuit_next pm_circuit_next an_circuit_next cd_circuit_next ct_circuit_next, f_law_cell := f_law_cell, d_law_cell := PySem.W.fnOf "_law_cell" "_law_cell" (defArgs s_law_cell) (defBody s_law_cell) (defScope s_law_cell) .none kV_law_cell dc_law_cell pm_law_cell an_law_cell cd_law_cell ct_law_cell, f_law_parts := f_law_parts, d_law_parts := PySem.W.fnOf "_law_parts" "_law_parts" (defArgs s_law_parts) (defBody s_law_parts) (defScope s_law_parts) .none kV_law_parts dc_law_parts pm_law_parts an_law_parts cd_law_parts ct_law_parts, f_law_is_integer := f_law_is_integer, d_law_is_integer := PySem.W.fnOf "_law_is_integer" "_law_is_integer" (defArgs s_law_is_integer) (defBody s_law_is_integer) (defScope s_law_is_integer) .none kV_law_is_integer dc_law_is_integer pm_law_is_integer an_law_is_integer cd_law_is_integer ct_law_is_integer, f_law_is_bits := f_law_is_bits, d_law_is_bits := PySem.W.fnOf "_law_is_bits" "_law_is_bits" (defArgs s_law_is_bits) (defBody s_law_is_bits) (defScope s_law_is_bits) .none kV_law_is_bits dc_law_is_bits pm_law_is_bits an_law_is_bits cd_law_is_bits ct_law_is_bits, f_law_bits := f_law_bits, d_law_bits := PySem.W.fnOf "_law_bits" "_law_bits" (defArgs s_law_bits) (defBody s_law_bits) (defScope s_law_bits) .none kV_law_bits dc_law_bits pm_law_bits an_law_bits cd_law_bits ct_law_bits, f_law_wrong := f_law_wrong, d_law_wrong := PySem.W.fnOf "_law_wrong" "_law_wrong" (defArgs s_law_wrong) (defBody s_law_wrong) (defScope s_law_wrong) .none kV_law_wrong dc_law_wrong pm_law_wrong an_law_wrong cd_law_wrong ct_law_wrong, f_law_kind := f_law_kind, d_law_kind := PySem.W.fnOf "_law_kind" "_law_kind" (defArgs s_law_kind) (defBody s_law_kind) (defScope s_law_kind) .none kV_law_kind dc_law_kind pm_law_kind an_law_kind cd_law_kind ct_law_kind, f_law_drawn := f_law_drawn, d_law_drawn := PySem.W.fnOf "_law_drawn" "_law_drawn" (defArgs s_law_drawn) (defBody s_law_drawn) (defScope s_law_drawn) .none kV_law_drawn dc_law_drawn pm_law_drawn an_law_drawn cd_law_drawn ct_law_drawn, f_law_circuit := f_law_circuit, d_law_circuit := PySem.W.fnOf "_law_circuit" "_law_circuit" (defArgs s_law_circuit) (defBody s_law_circuit) (defScope s_law_circuit) .none kV_law_circuit dc_law_circuit pm_law_circuit an_law_circuit cd_law_circuit ct_law_circuit, f_law_value := f_law_value, d_law_value := PySem.W.fnOf "_law_value" "_law_value" (defArgs s_law_value) (defBody s_law_value) (defScope s_law_value) .none kV_law_value dc_law_value pm_law_value an_law_value cd_law_value ct_law_value, f_law_values := f_law_values, d_law_values := PySem.W.fnOf "_law_values" "_law_values" (defArgs s_law_values) (defBody s_law_values) (defScope s_law_values) .none kV_law_values dc_law_values pm_law_values an_law_values cd_law_values ct_law_values, f_law_refuses := f_law_refuses, d_law_refuses := PySem.W.fnOf "_law_refuses" "_law_refuses" (defArgs s_law_refuses) (defBody s_law_refuses) (defScope s_law_refuses) .none kV_law_refuses dc_law_refuses pm_law_refuses an_law_refuses cd_law_refuses ct_law_refuses, f_law_right_case := f_law_right_case, d_law_right_case := PySem.W.fnOf "_law_right_case" "_law_right_case" (defArgs s_law_right_case) (defBody s_law_right_case) (defScope s_law_right_case) .none kV_law_right_case dc_law_right_case pm_law_right_case an_law_right_case cd_law_right_case ct_law_right_case, f_law_bare := f_law_bare, d_law_bare := PySem.W.fnOf "_law_bare" "_law_bare" (defArgs s_law_bare) (defBody s_law_bare) (defScope s_law_bare) .none kV_law_bare dc_law_bare pm_law_bare an_law_bare cd_law_bare ct_law_bare, f_law := fa, d_law := PySem.W.fnOf "law" "law" (defArgs s_law) (defBody s_law) (defScope s_law) .none kV_law dc_law pm_law an_law cd_law ct_law, C_GatesError := C_GatesError, C_InvalidValues := C_InvalidValues }
  have T : Top K mg w a := { F_check_bits := F_check_bits, b_check_bits := b_check_bits, g_check_bits := PySem.W.mg_of X G a_check_bits, F_cell_value := F_cell_value, b_cell_value := b_cell_value, g_cell_value := PySem.W.mg_of X G a_cell_value, F_cell_values := F_cell_values, b_cell_values := b_cell_values, g_cell_values := PySem.W.mg_of X G a_cell_values, F_circuit_outputs := F_circuit_outputs, b_circuit_outputs := b_circuit_outputs, g_circuit_outputs := PySem.W.mg_of X G a_circuit_outputs, F_circuit_next := F_circuit_next, b_circuit_next := b_circuit_next, g_circuit_next := PySem.W.mg_of X G a_circuit_next, F_law_cell := F_law_cell, b_law_cell := b_law_cell, g_law_cell := PySem.W.mg_of X G a_law_cell, F_law_parts := F_law_parts, b_law_parts := b_law_parts, g_law_parts := PySem.W.mg_of X G a_law_parts, F_law_is_integer := F_law_is_integer, b_law_is_integer := b_law_is_integer, g_law_is_integer := PySem.W.mg_of X G a_law_is_integer, F_law_is_bits := F_law_is_bits, b_law_is_bits := b_law_is_bits, g_law_is_bits := PySem.W.mg_of X G a_law_is_bits, F_law_bits := F_law_bits, b_law_bits := b_law_bits, g_law_bits := PySem.W.mg_of X G a_law_bits, F_law_wrong := F_law_wrong, b_law_wrong := b_law_wrong, g_law_wrong := PySem.W.mg_of X G a_law_wrong, F_law_kind := F_law_kind, b_law_kind := b_law_kind, g_law_kind := PySem.W.mg_of X G a_law_kind, F_law_drawn := F_law_drawn, b_law_drawn := b_law_drawn, g_law_drawn := PySem.W.mg_of X G a_law_drawn, F_law_circuit := F_law_circuit, b_law_circuit := b_law_circuit, g_law_circuit := PySem.W.mg_of X G a_law_circuit, F_law_value := F_law_value, b_law_value := b_law_value, g_law_value := PySem.W.mg_of X G a_law_value, F_law_values := F_law_values, b_law_values := b_law_values, g_law_values := PySem.W.mg_of X G a_law_values, F_law_refuses := F_law_refuses, b_law_refuses := b_law_refuses, g_law_refuses := PySem.W.mg_of X G a_law_refuses, F_law_right_case := F_law_right_case, b_law_right_case := b_law_right_case, g_law_right_case := PySem.W.mg_of X G a_law_right_case, F_law_bare := F_law_bare, b_law_bare := b_law_bare, g_law_bare := PySem.W.mg_of X G a_law_bare, F_law := F_law, b_law := b_law, g_law := PySem.W.mg_of X G a_law, g_GatesError := PySem.W.mg_of X G aC_GatesError, g_InvalidValues := PySem.W.mg_of X G aC_InvalidValues, x_GatesError := x_GatesError, k_GatesError := k_GatesError, b_GatesError := b_GatesError, t_GatesError := t_GatesError, e_GatesError_GatesError := exm_two b_GatesError b_GatesError ic_GatesError t_GatesError s_GatesError_GatesError, x_InvalidValues := x_InvalidValues, k_InvalidValues := k_InvalidValues, b_InvalidValues := b_InvalidValues, t_InvalidValues := t_InvalidValues, e_InvalidValues_InvalidValues := exm_two b_InvalidValues b_InvalidValues ic_InvalidValues t_InvalidValues s_InvalidValues_InvalidValues, e_InvalidValues_GatesError := exm_two b_InvalidValues b_GatesError ic_GatesError t_GatesError s_InvalidValues_GatesError, z_bool := PySem.W.mg_none_of X G z_bool, z_int := PySem.W.mg_none_of X G z_int, z_isinstance := PySem.W.mg_none_of X G z_isinstance, z_len := PySem.W.mg_none_of X G z_len, z_list := PySem.W.mg_none_of X G z_list, z_max := PySem.W.mg_none_of X G z_max, z_min := PySem.W.mg_none_of X G z_min, z_range := PySem.W.mg_none_of X G z_range, z_sum := PySem.W.mg_none_of X G z_sum, z_tuple := PySem.W.mg_none_of X G z_tuple }
  exact ⟨_, fun s v => .of_eq rfl, fun base _ _ => ok_law T⟩
theorem walk {l : PySem.W.OpenLaw} {q : Program} {loose : List Str} {XP : (Str → Option Value) → Heap → Prop} {YP : World → Heap → Prop} {d : DefRec} {K : Params → PySem.W.Frag} (hn : l.most = some 63) (hdf : d.params.defaults = [])
    (hY : ∀ (w : World) (h : Heap), YP w h → (K w.params).In h)
    (F : ∀ (w : World) (mg : Str → Option Value) (fa : Addr) (h : Heap), (K w.params).In h → h.Ns mainGlobals mg → mg d.name = some (.ref fa) →
      ∃ fd : FuncData, (∀ (s : Shared) (u : Value), BindsTo s fd ⟨[u], []⟩ [("script", u)]) ∧ ∀ base : Heap, (K w.params).In base → base.Ns mainGlobals mg → FnOk l.prog w (K w.params) mg base CX0 5 fa fd ["script"] (spLaw (K w.params))) :
    PySem.W.WalkO q loose XP YP l.row.toRowW d [] (fun f vs => PySem.call f vs) :=
  L2.walk_of (n := 63) (k := 5) (x := "script") (CX := fun _ => CX0) (sp := fun w => spLaw (K w.params)) hn (by decide) hdf ⟨rfl, by decide, by decide⟩ hY F (fun _ _ a ns hl _ hS => ⟨a, ns, rfl, hS, hl, fun _ => rfl⟩) fun _ _ _ _ _ z => z
end GR

open PySem PySem.W PyProof.Rows in
set_option maxRecDepth 100000 in
set_option maxHeartbeats 0 in
theorem PySem.Challenge.cw_gatesread_k68_values_of_any_circuit_holds : PySem.Challenge.rw_gatesread_k68_values_of_any_circuit.Holds := by
  w_on; o_law; k_head; (case hw => w_witness2)
  k_fill
  refine GR.walk (l := PySem.Challenge.rw_gatesread_k68_values_of_any_circuit) rfl rfl (fun w h Y => PySem.W.kIn_of Y) ?F
  case F =>
    intro w mg fa h KX G hmg
    refine' GR.all_mk KX G hmg ?aC_GatesError ?aC_InvalidValues ?x_GatesError ?k_GatesError ?b_GatesError ?t_GatesError ?ic_GatesError ?s_GatesError_GatesError ?x_InvalidValues ?k_InvalidValues ?b_InvalidValues ?t_InvalidValues ?ic_InvalidValues ?s_InvalidValues_InvalidValues ?s_InvalidValues_GatesError ?a_check_bits ?l_check_bits ?c_check_bits ?k_check_bits ?a_cell_value ?l_cell_value ?c_cell_value ?k_cell_value ?a_cell_values ?l_cell_values ?c_cell_values ?k_cell_values ?a_circuit_outputs ?l_circuit_outputs ?c_circuit_outputs ?k_circuit_outputs ?a_circuit_next ?l_circuit_next ?c_circuit_next ?k_circuit_next ?a_law_cell ?l_law_cell ?c_law_cell ?k_law_cell ?a_law_parts ?l_law_parts ?c_law_parts ?k_law_parts ?a_law_is_integer ?l_law_is_integer ?c_law_is_integer ?k_law_is_integer ?a_law_is_bits ?l_law_is_bits ?c_law_is_bits ?k_law_is_bits ?a_law_bits ?l_law_bits ?c_law_bits ?k_law_bits ?a_law_wrong ?l_law_wrong ?c_law_wrong ?k_law_wrong ?a_law_kind ?l_law_kind ?c_law_kind ?k_law_kind ?a_law_drawn ?l_law_drawn ?c_law_drawn ?k_law_drawn ?a_law_circuit ?l_law_circuit ?c_law_circuit ?k_law_circuit ?a_law_value ?l_law_value ?c_law_value ?k_law_value ?a_law_values ?l_law_values ?c_law_values ?k_law_values ?a_law_refuses ?l_law_refuses ?c_law_refuses ?k_law_refuses ?a_law_right_case ?l_law_right_case ?c_law_right_case ?k_law_right_case ?a_law_bare ?l_law_bare ?c_law_bare ?k_law_bare ?a_law ?l_law ?c_law ?k_law ?z_bool ?z_int ?z_isinstance ?z_len ?z_list ?z_max ?z_min ?z_range ?z_sum ?z_tuple
    (case aC_GatesError => k_is)
    (case aC_InvalidValues => k_is)
    (case x_GatesError => k_exc)
    (case k_GatesError => k_is)
    (case b_GatesError => k_is)
    (case t_GatesError => k_is)
    (case ic_GatesError => k_is)
    (case s_GatesError_GatesError => first | rfl | k_is)
    (case x_InvalidValues => k_exc)
    (case k_InvalidValues => k_is)
    (case b_InvalidValues => k_is)
    (case t_InvalidValues => k_is)
    (case ic_InvalidValues => k_is)
    (case s_InvalidValues_InvalidValues => first | rfl | k_is)
    (case s_InvalidValues_GatesError => first | rfl | k_is)
    (case a_check_bits => k_is)
    (case l_check_bits => k_is)
    (case c_check_bits => k_is)
    (case k_check_bits => k_is)
    (case a_cell_value => k_is)
    (case l_cell_value => k_is)
    (case c_cell_value => k_is)
    (case k_cell_value => k_is)
    (case a_cell_values => k_is)
    (case l_cell_values => k_is)
    (case c_cell_values => k_is)
    (case k_cell_values => k_is)
    (case a_circuit_outputs => k_is)
    (case l_circuit_outputs => k_is)
    (case c_circuit_outputs => k_is)
    (case k_circuit_outputs => k_is)
    (case a_circuit_next => k_is)
    (case l_circuit_next => k_is)
    (case c_circuit_next => k_is)
    (case k_circuit_next => k_is)
    (case a_law_cell => k_is)
    (case l_law_cell => k_is)
    (case c_law_cell => k_is)
    (case k_law_cell => k_is)
    (case a_law_parts => k_is)
    (case l_law_parts => k_is)
    (case c_law_parts => k_is)
    (case k_law_parts => k_is)
    (case a_law_is_integer => k_is)
    (case l_law_is_integer => k_is)
    (case c_law_is_integer => k_is)
    (case k_law_is_integer => k_is)
    (case a_law_is_bits => k_is)
    (case l_law_is_bits => k_is)
    (case c_law_is_bits => k_is)
    (case k_law_is_bits => k_is)
    (case a_law_bits => k_is)
    (case l_law_bits => k_is)
    (case c_law_bits => k_is)
    (case k_law_bits => k_is)
    (case a_law_wrong => k_is)
    (case l_law_wrong => k_is)
    (case c_law_wrong => k_is)
    (case k_law_wrong => k_is)
    (case a_law_kind => k_is)
    (case l_law_kind => k_is)
    (case c_law_kind => k_is)
    (case k_law_kind => k_is)
    (case a_law_drawn => k_is)
    (case l_law_drawn => k_is)
    (case c_law_drawn => k_is)
    (case k_law_drawn => k_is)
    (case a_law_circuit => k_is)
    (case l_law_circuit => k_is)
    (case c_law_circuit => k_is)
    (case k_law_circuit => k_is)
    (case a_law_value => k_is)
    (case l_law_value => k_is)
    (case c_law_value => k_is)
    (case k_law_value => k_is)
    (case a_law_values => k_is)
    (case l_law_values => k_is)
    (case c_law_values => k_is)
    (case k_law_values => k_is)
    (case a_law_refuses => k_is)
    (case l_law_refuses => k_is)
    (case c_law_refuses => k_is)
    (case k_law_refuses => k_is)
    (case a_law_right_case => k_is)
    (case l_law_right_case => k_is)
    (case c_law_right_case => k_is)
    (case k_law_right_case => k_is)
    (case a_law_bare => k_is)
    (case l_law_bare => k_is)
    (case c_law_bare => k_is)
    (case k_law_bare => k_is)
    (case a_law => k_is)
    (case l_law => k_is)
    (case c_law => k_is)
    (case k_law => k_is)
    (case z_bool => k_is)
    (case z_int => k_is)
    (case z_isinstance => k_is)
    (case z_len => k_is)
    (case z_list => k_is)
    (case z_max => k_is)
    (case z_min => k_is)
    (case z_range => k_is)
    (case z_sum => k_is)
    (case z_tuple => k_is)
