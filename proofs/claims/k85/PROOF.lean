import PyProof.Rows.All
import Wide.All
import OpenK.AllK
import Wide.FinOn
import HandS.ForMost
import HandS.Evl
import HandS.Steps
import HandS.IsInst
import HandS.Wide
import HandS.Deep
import HandS.More
import HandS.Exc
import HandS.ExcOwn
import HandS.WordsExc
import HandS.TryOnly
import HandS.RaiseMore
import HandS.FStr
import HandS.Conv
import KE.GoesMore
import HandS.DictComp
import HandS.Zip
import KE.GoesEnum
import HandS.Flt
import PySem.Challenge.RW_gatesread_k85_value_at
set_option Elab.async false
set_option linter.all false
set_option maxRecDepth 100000
set_option maxHeartbeats 4000000

namespace GR
open PySem PySem.Spec PyProof.Rows L2 Evl

/-! ### the known heap G: all that is known stands at G, the heap at hand extends it -/
theorem ex_upd {G H : Hp} (e : Ex G H) (l : Addr) (o : HO) : Ex (upd G l o) (upd H l o) := fun a u h => by
  by_cases q : a = l
  · subst q
    rw [upd_same] at h ⊢
    exact h
  · rw [upd_ne q] at h ⊢
    exact e a u h
theorem ex_to {G H : Hp} {p : Addr} {o : HO} (e : Ex G H) (h : H p = some o) : Ex (upd G p o) H := fun a u g => by
  by_cases q : a = p
  · subst q
    rw [upd_same] at g
    rw [h]
    exact g
  · rw [upd_ne q] at g
    exact e a u g
section
variable {K : PySem.W.Frag} {σ : L2.St} {G H H' : Hp} {ta tb te tx : TE} {t u : TT} {x y z v : V} {D : Ends} {tu tw tz : TS} {g : TG}
/-- x = e, the rest -/
theorem a_set {i : Nat} (e : Ex G H) (h : Ev te σ G v) (k : ∀ H1, Ex G H1 → tz D (σ.set i (some v)) H1) : tSeq (tAsg te (gName i)) tz D σ H :=
  h H e _ fun H1 e1 => k H1 (e.trans e1)
theorem a_setL {i : Nat} {xs : List V} (e : Ex G H) (h : EvL te σ G xs) (k : ∀ p H1, G p = none → Ex (upd G p (.lst xs)) H1 → tz D (σ.set i (some (.ref p))) H1) : tSeq (tAsg te (gName i)) tz D σ H :=
  h H e _ fun p H1 hp e1 h1 => k p H1 (fresh_back e hp) (ex_to (e.trans e1) h1)
theorem a_setU {i : Nat} {xs : List V} (e : Ex G H) (h : EvU te σ G xs) (k : ∀ p H1, G p = none → Ex (upd G p (.tup xs)) H1 → tz D (σ.set i (some (.ref p))) H1) : tSeq (tAsg te (gName i)) tz D σ H :=
  h H e _ fun p H1 hp e1 h1 => k p H1 (fresh_back e hp) (ex_to (e.trans e1) h1)
/-- if -/
theorem a_if {b : Bool} (e : Ex G H) (h : EvT t σ G b) (h1 : b = true → ∀ H1, Ex G H1 → tu D σ H1) (h2 : b = false → ∀ H1, Ex G H1 → tw D σ H1) : tIfS t tu tw D σ H :=
  h H e _ fun H1 e1 => by
    cases b with
    | true => exact h1 rfl H1 (e.trans e1)
    | false => exact h2 rfl H1 (e.trans e1)
theorem a_ifq {b : Bool} (e : Ex G H) (h : EvT t σ G b) (h1 : b = true → ∀ H1, Ex G H1 → tu { D with nx := tz D } σ H1) (h2 : b = false → ∀ H1, Ex G H1 → tw { D with nx := tz D } σ H1) : tSeq (tIfS t tu tw) tz D σ H :=
  a_if (D := { D with nx := tz D }) e h h1 h2
/-- an if without else -/
theorem a_when {b : Bool} (e : Ex G H) (h : EvT t σ G b) (h1 : b = true → ∀ H1, Ex G H1 → tu { D with nx := tz D } σ H1) (h2 : b = false → ∀ H1, Ex G H1 → tz D σ H1) : tSeq (tIfS t tu tNext) tz D σ H :=
  a_if (D := { D with nx := tz D }) e h h1 h2
theorem a_when1 {b : Bool} (e : Ex G H) (h : EvT t σ G b) (h1 : b = true → ∀ H1, Ex G H1 → tu D σ H1) (h2 : b = false → ∀ H1, Ex G H1 → D.nx σ H1) : tIfS t tu tNext D σ H :=
  a_if e h h1 h2
theorem a_ret (e : Ex G H) (h : Ev te σ G v) (k : ∀ H1, Ex G H1 → D.rt v H1) : tRet te D σ H := h H e _ fun H1 e1 => k H1 (e.trans e1)
theorem a_retL {xs : List V} (e : Ex G H) (h : EvL te σ G xs) (k : ∀ p H1, G p = none → Ex G H1 → H1 p = some (.lst xs) → D.rt (.ref p) H1) : tRet te D σ H :=
  h H e _ fun p H1 hp e1 h1 => k p H1 (fresh_back e hp) (e.trans e1) h1
theorem a_retU {xs : List V} (e : Ex G H) (h : EvU te σ G xs) (k : ∀ p H1, G p = none → Ex G H1 → H1 p = some (.tup xs) → D.rt (.ref p) H1) : tRet te D σ H :=
  h H e _ fun p H1 hp e1 h1 => k p H1 (fresh_back e hp) (e.trans e1) h1
/-- xs.append(e), the rest -/
theorem a_app {l : Addr} {xs : List V} (e : Ex G H) (ha : Ev ta σ G (.ref l)) (hl : G l = some (.lst xs)) (h : Ev te σ G v) (hz : xs.length < 100000) (k : ∀ H1, Ex (upd G l (.lst (xs ++ [v]))) H1 → tz D σ H1) :
    tSeq (tDrop (tBM K "list" rAppend ta (tCons te tNil))) tz D σ H :=
  ha H e _ fun H1 e1 => ⟨Or.inl ⟨rfl, xs, sq_of (e1 l _ (e l _ hl))⟩, h H1 (e.trans e1) _ fun H2 e2 => ⟨l, xs, v, rfl, rfl, e2 l _ (e1 l _ (e l _ hl)), sz_lt hz, k _ (ex_upd ((e.trans e1).trans e2) l _)⟩⟩
theorem a_app1 {l : Addr} {xs : List V} (e : Ex G H) (ha : Ev ta σ G (.ref l)) (hl : G l = some (.lst xs)) (h : Ev te σ G v) (hz : xs.length < 100000) (k : ∀ H1, Ex (upd G l (.lst (xs ++ [v]))) H1 → D.nx σ H1) :
    tDrop (tBM K "list" rAppend ta (tCons te tNil)) D σ H :=
  ha H e _ fun H1 e1 => ⟨Or.inl ⟨rfl, xs, sq_of (e1 l _ (e l _ hl))⟩, h H1 (e.trans e1) _ fun H2 e2 => ⟨l, xs, v, rfl, rfl, e2 l _ (e1 l _ (e l _ hl)), sz_lt hz, k _ (ex_upd ((e.trans e1).trans e2) l _)⟩⟩
theorem a_set1 {i : Nat} (e : Ex G H) (h : Ev te σ G v) (k : ∀ H1, Ex G H1 → D.nx (σ.set i (some v)) H1) : tAsg te (gName i) D σ H :=
  h H e _ fun H1 e1 => k H1 (e.trans e1)
/-- for i in range(n) -/
theorem a_forR {ta : TA} {j : Nat} {n : Int} (e : Ex G H) (h : EvA ta σ G [.int n]) (hn : 0 ≤ n ∧ n ≤ 100000) (Pv : Nat → L2.St → Hp → Prop) (h0 : ∀ H1, Ex G H1 → Pv 0 σ H1)
    (hs : ∀ (i : Nat) σ' H', (i : Int) < n → Pv i σ' H' → tu { D with nx := Pv (i + 1), ct := Pv (i + 1), bk := tz D } (σ'.set j (some (.int (i : Int)))) H') (hd : ∀ σ' H', Pv n.toNat σ' H' → tz D σ' H') : tSeq (tFor (iRng1 ta) (gName j) tu) tz D σ H :=
  s_forR1 (D := { D with nx := tz D }) (fun H1 e1 => h H1 (e.trans e1)) hn Pv (fun H1 e1 => h0 H1 (e.trans e1)) hs hd
end
end GR
namespace GR
open PySem PySem.Spec PyProof.Rows L2 Evl
section
variable {K : PySem.W.Frag} {σ : L2.St} {G H H' : Hp} {ta tb te tx : TE} {t u : TT} {x y z v : V} {D : Ends} {tu tw tz : TS} {g : TG}
/-- int(n) -/
theorem ev_int1 {i : Int} (h : Ev ta σ G (.int i)) : Ev (tCB (fun xs H Q => (∃ i, xs = [V.int i] ∧ Q (.int i) H) ∨ ∃ k, xs = [V.bl k] ∧ Q (.int (if k then 1 else 0)) H) (tCons ta tNil)) σ G (.int i) := fun H1 e Q q =>
  h H1 e _ fun H2 e2 => Or.inl ⟨i, rfl, q H2 e2⟩
theorem ev_int1b {b : Bool} (h : Ev ta σ G (.bl b)) : Ev (tCB (fun xs H Q => (∃ i, xs = [V.int i] ∧ Q (.int i) H) ∨ ∃ k, xs = [V.bl k] ∧ Q (.int (if k then 1 else 0)) H) (tCons ta tNil)) σ G (.int (if b then 1 else 0)) := fun H1 e Q q =>
  h H1 e _ fun H2 e2 => Or.inr ⟨b, rfl, q H2 e2⟩
theorem ev_lenS {p : Addr} {xs : List V} (ha : Ev ta σ G (.ref p)) (h : SqL K G p xs) : Ev (tCB (fun xs H Q => ∃ p ys, xs = [V.ref p] ∧ (SqL K H p ys ∨ SqT K H p ys) ∧ Q (.int ys.length) H) (tCons ta tNil)) σ G (.int (xs.length : Int)) := fun H1 e Q q =>
  ha H1 e _ fun H2 e2 => ⟨p, xs, rfl, Or.inl (ex_l (e.trans e2) h), q H2 e2⟩
theorem ev_lenT {p : Addr} {xs : List V} (ha : Ev ta σ G (.ref p)) (h : SqT K G p xs) : Ev (tCB (fun xs H Q => ∃ p ys, xs = [V.ref p] ∧ (SqL K H p ys ∨ SqT K H p ys) ∧ Q (.int ys.length) H) (tCons ta tNil)) σ G (.int (xs.length : Int)) := fun H1 e Q q =>
  ha H1 e _ fun H2 e2 => ⟨p, xs, rfl, Or.inr (ex_t (e.trans e2) h), q H2 e2⟩
theorem hu64 {A : Around} {k : Nat} (hr : Room k A) : A.units + 64 < cLine := hr.units
theorem pe_const {X : Cx} {x : Str} {v : V} {pos : Pos} (hg : Gl X x) (h : ∃ u, X.mg x = some u ∧ RelV v u) (hd : (x == ("__debug__" : Str)) = false := by decide) : PE X (.Name x pos) (tC v) := by
  obtain ⟨u, hm, r⟩ := h
  exact pe_glob hg hm r hd
end
/-- drawn numbers -/
structure Draw (ns sizes : List Int) : Prop where
  len : ns.length = sizes.length
  at_ : ∀ k, k < sizes.length → 0 ≤ ns.getD k 0 ∧ ns.getD k 0 < sizes.getD k 0
/-- the k-th cell of the script -/
def cellOf (ns : List Int) (k : Nat) : Int := ns.getD k 0
theorem at_map {ns : List Int} {k : Nat} (h : k < ns.length) : atI (ns.map V.int) (k : Int) = some (.int (ns.getD k 0)) := by
  have e : (ns.map V.int)[k]? = some (.int (ns.getD k 0)) := by
    rw [List.getElem?_map, List.getElem?_eq_getElem h, List.getD_eq_getElem?_getD, List.getElem?_eq_getElem h]
    rfl
  exact atI_nat e
end GR
namespace GR
open PySem PySem.Spec PyProof.Rows L2 Evl
section
variable {K : PySem.W.Frag} {σ : L2.St} {G H H' : Hp} {ta tb tc te tx : TE} {t u : TT} {x y z v : V} {D : Ends} {tu tw tz : TS} {g : TG}
/-- isinstance(x, T) -/
theorem ev_isi {c : V} {ty un : Value} {b : Bool} (h : Ev ta σ G x) (hc : Ev tb σ G c) (cv : ClsV c un) (hk : PySem.W.kitOne K ty un = some b) (ht : ∀ H1, Ex G H1 → TyX K H1 x ty) : Ev (tCB (rIsi K) (tCons ta (tCons tb tNil))) σ G (.bl b) := fun H1 e Q q =>
  h H1 e _ fun H2 e2 => hc H2 (e.trans e2) _ fun H3 e3 => ⟨x, c, ty, un, b, rfl, cv, ht H3 ((e.trans e2).trans e3), hk, q H3 (e2.trans e3)⟩
theorem ev_isiInt {i : Int} (h : Ev ta σ G (.int i)) : Ev (tCB (rIsi K) (tCons ta (tCons (tC (.ty "int")) tNil))) σ G (.bl true) := ev_isi h ev_c (.ty _) (kit_ty (by decide +kernel)) fun _ _ => .base (.int i)
theorem ev_isiIntB {i : Int} (h : Ev ta σ G (.int i)) : Ev (tCB (rIsi K) (tCons ta (tCons (tC (.ty "bool")) tNil))) σ G (.bl false) := ev_isi h ev_c (.ty _) (kit_ty (by decide +kernel)) fun _ _ => .base (.int i)
theorem ev_isiBl {i : Bool} (h : Ev ta σ G (.bl i)) : Ev (tCB (rIsi K) (tCons ta (tCons (tC (.ty "bool")) tNil))) σ G (.bl true) := ev_isi h ev_c (.ty _) (kit_ty (by decide +kernel)) fun _ _ => .base (.bl i)
theorem ev_isiStr {i : Str} (h : Ev ta σ G (.str i)) : Ev (tCB (rIsi K) (tCons ta (tCons (tC (.ty "str")) tNil))) σ G (.bl true) := ev_isi h ev_c (.ty _) (kit_ty (by decide +kernel)) fun _ _ => .base (.str i)
theorem ev_isiLst {p : Addr} {xs : List V} (h : Ev ta σ G (.ref p)) (hl : G p = some (.lst xs)) : Ev (tCB (rIsi K) (tCons ta (tCons (tC (.ty "list")) tNil))) σ G (.bl true) := ev_isi h ev_c (.ty _) (kit_ty (by decide +kernel)) fun _ e => .base (.lst (e _ _ hl))
theorem ev_isiTup {p : Addr} {xs : List V} (h : Ev ta σ G (.ref p)) (hl : G p = some (.tup xs)) : Ev (tCB (rIsi K) (tCons ta (tCons (tC (.ty "tuple")) tNil))) σ G (.bl true) := ev_isi h ev_c (.ty _) (kit_ty (by decide +kernel)) fun _ e => .base (.tup (e _ _ hl))
theorem tyx_tup {p : Addr} {xs : List V} (h : SqT K G p xs) : ∀ H1, Ex G H1 → TyX K H1 (.ref p) (.type "tuple") := fun H1 e => by
  rcases h with (h | ⟨o, h⟩) | ⟨o, its, n, h1, h2, _⟩
  · exact .base (.tup (e _ _ h))
  · exact .fTuple (e _ _ h)
  · exact .kTuple h1 h2
theorem ev_isiTupS {p : Addr} {xs : List V} (h : Ev ta σ G (.ref p)) (hl : SqT K G p xs) : Ev (tCB (rIsi K) (tCons ta (tCons (tC (.ty "tuple")) tNil))) σ G (.bl true) := ev_isi h ev_c (.ty _) (kit_ty (by decide +kernel)) (tyx_tup hl)
/-- sum, max, min of a list of ints -/
theorem ev_sum {p : Addr} {ns : List Int} (h : Ev ta σ G (.ref p)) (hs : SqL K G p (ns.map V.int)) : Ev (tCB (rSum K) (tCons ta tNil)) σ G (.int ns.sum) := fun H1 e Q q =>
  h H1 e _ fun H2 e2 => ⟨p, ns, rfl, ex_l (e.trans e2) hs, q H2 e2⟩
theorem ev_max {p : Addr} {ns : List Int} {m : Int} (h : Ev ta σ G (.ref p)) (hs : SqL K G p (ns.map V.int)) (hm : m ∈ ns) (hx : ∀ y, y ∈ ns → y ≤ m) : Ev (tCB (rMax K) (tCons ta tNil)) σ G (.int m) := fun H1 e Q q =>
  h H1 e _ fun H2 e2 => ⟨p, ns, rfl, ex_l (e.trans e2) hs, List.length_pos_of_mem hm, fun m' h1 h2 => by
    have e3 : m' = m := Int.le_antisymm (hx _ h1) (h2 _ hm)
    rw [e3]
    exact q H2 e2⟩
theorem ev_min {p : Addr} {ns : List Int} {m : Int} (h : Ev ta σ G (.ref p)) (hs : SqL K G p (ns.map V.int)) (hm : m ∈ ns) (hx : ∀ y, y ∈ ns → m ≤ y) : Ev (tCB (rMin K) (tCons ta tNil)) σ G (.int m) := fun H1 e Q q =>
  h H1 e _ fun H2 e2 => ⟨p, ns, rfl, ex_l (e.trans e2) hs, List.length_pos_of_mem hm, fun m' h1 h2 => by
    have e3 : m' = m := Int.le_antisymm (h2 _ hm) (hx _ h1)
    rw [e3]
    exact q H2 e2⟩
/-- a slice of a text -/
theorem ev_slS {tl th : TO} {w : Str} {lo hi : Option Int} (h : Ev te σ G (.str w)) (h1 : EvO tl σ G lo) (h2 : EvO th σ G hi) (hz : w.length ≤ 100000) : Ev (tSl rSlS te tl th) σ G (.str (cutS w lo hi)) := fun H1 e Q q =>
  h H1 e _ fun H2 e2 => h1 H2 (e.trans e2) _ fun H3 e3 => h2 H3 ((e.trans e2).trans e3) _ fun H4 e4 => ⟨w, rfl, sz_of hz, q H4 ((e2.trans e3).trans e4)⟩
/-- d[k], d a dict of the module -/
theorem rv_kd {w : World} {p : Addr} {k : Str} (h : KDct K w p k v) : RV (rIxD K w) (.ref p) (.str k) G v := fun H1 _ _ q => ⟨p, k, v, rfl, rfl, h, q H1 (Ex.refl H1)⟩
/-- == of data -/
theorem dp_mono {G H : Hp} (e : Ex G H) : ∀ {v : V} {d : PyData}, Dp K G v d → Dp K H v d := by
  intro v d h
  refine Dp.rec (motive_1 := fun v d _ => Dp K H v d) (motive_2 := fun vs ds _ => DpAll K H vs ds) .non .bl .int .str (fun h _ ih => .lst (ex_l e h) ih) (fun h _ ih => .tup (ex_t e h) ih) .nil (fun _ _ a b => .cons a b) h
theorem rv_eqD {d1 d2 : PyData} (h1 : Dp K G x d1) (h2 : Dp K G y d2) (s1 : SeqAt.shaped d1 = true) (s2 : SeqAt.shaped d2 = true) : RV (rEqD K) x y G (.bl (PyData.eqv d1 d2)) := fun H1 e _ q => ⟨d1, d2, dp_mono e h1, dp_mono e h2, s1, s2, q H1 (Ex.refl H1)⟩
theorem rv_neD {d1 d2 : PyData} (h1 : Dp K G x d1) (h2 : Dp K G y d2) (s1 : SeqAt.shaped d1 = true) (s2 : SeqAt.shaped d2 = true) : RV (rNeD K) x y G (.bl (!PyData.eqv d1 d2)) := fun H1 e _ q => ⟨d1, d2, dp_mono e h1, dp_mono e h2, s1, s2, q H1 (Ex.refl H1)⟩
theorem dpAll_ints (ns : List Int) : DpAll K G (ns.map V.int) (ns.map PyData.int) := by
  induction ns with
  | nil => exact .nil
  | cons n r ih => exact .cons (.int n) ih
theorem dp_ints {p : Addr} {ns : List Int} (h : SqL K G p (ns.map V.int)) : Dp K G (.ref p) (.list (ns.map PyData.int)) := .lst h (dpAll_ints ns)
theorem canLay_ints (ns : List Int) : PyData.canLayAll0 (ns.map PyData.int) = true := by
  induction ns with
  | nil => first | rfl | simp [PyData.canLayAll0]
  | cons n r ih => simp [PyData.canLayAll0, PyData.canLay0, ih]
theorem depth_ints (ns : List Int) : PyData.depthAll (ns.map PyData.int) ≤ 1 := by
  induction ns with
  | nil => simp [PyData.depthAll]
  | cons n r ih => simp [PyData.depthAll, PyData.depth]; omega
theorem shaped_ints (ns : List Int) : SeqAt.shaped (.list (ns.map PyData.int)) = true := by
  have h := depth_ints ns
  simp [SeqAt.shaped, PyData.canLay0, PyData.depth, canLay_ints]
  omega
theorem eqv_ints : ∀ ns ms : List Int, PyData.eqvAll (ns.map PyData.int) (ms.map PyData.int) = decide (ns = ms)
  | [], [] => by simp [PyData.eqvAll]
  | [], _ :: _ => by simp [PyData.eqvAll]
  | _ :: _, [] => by simp [PyData.eqvAll]
  | n :: r, m :: s => by
    simp [PyData.eqvAll, PyData.eqv, eqv_ints r s]
    by_cases h : n = m <;> simp [h]
theorem eqvL_ints (ns ms : List Int) : PyData.eqv (.list (ns.map PyData.int)) (.list (ms.map PyData.int)) = decide (ns = ms) := by
  rw [PyData.eqv, eqv_ints]
theorem rv_eqInts {p q : Addr} {ns ms : List Int} (h1 : SqL K G p (ns.map V.int)) (h2 : SqL K G q (ms.map V.int)) : RV (rEqD K) (.ref p) (.ref q) G (.bl (decide (ns = ms))) := by
  rw [← eqvL_ints]
  exact rv_eqD (dp_ints h1) (dp_ints h2) (shaped_ints ns) (shaped_ints ms)
theorem rv_neInts {p q : Addr} {ns ms : List Int} (h1 : SqL K G p (ns.map V.int)) (h2 : SqL K G q (ms.map V.int)) : RV (rNeD K) (.ref p) (.ref q) G (.bl (!decide (ns = ms))) := by
  rw [← eqvL_ints]
  exact rv_neD (dp_ints h1) (dp_ints h2) (shaped_ints ns) (shaped_ints ms)
/-- list(xs) of a list -/
theorem el_listL {p : Addr} {xs : List V} (ha : Ev ta σ G (.ref p)) (h : SqL K G p xs) : EvL (tCB (fun xs H Q => ∃ p ys, xs = [V.ref p] ∧ (SqL K H p ys ∨ SqT K H p ys) ∧ ∀ l, H l = none → Q (.ref l) (upd H l (.lst ys))) (tCons ta tNil)) σ G xs := fun H1 e Q q =>
  ha H1 e _ fun H2 e2 => ⟨p, xs, rfl, Or.inl (ex_l (e.trans e2) h), fun l hl => q l _ (fresh_back e2 hl) (e2.trans (Ex.new hl)) upd_same⟩
theorem el_listT {p : Addr} {xs : List V} (ha : Ev ta σ G (.ref p)) (h : SqT K G p xs) : EvL (tCB (fun xs H Q => ∃ p ys, xs = [V.ref p] ∧ (SqL K H p ys ∨ SqT K H p ys) ∧ ∀ l, H l = none → Q (.ref l) (upd H l (.lst ys))) (tCons ta tNil)) σ G xs := fun H1 e Q q =>
  ha H1 e _ fun H2 e2 => ⟨p, xs, rfl, Or.inr (ex_t (e.trans e2) h), fun l hl => q l _ (fresh_back e2 hl) (e2.trans (Ex.new hl)) upd_same⟩
/-- int(text) -/
theorem ev_intS {a : Str} {n : Int} (h : Ev ta σ G (.str a)) (h1 : PySem.intText? a = some n) (h2 : a.length ≤ 640) : Ev (tCB (fun xs H Q => ∃ a n, xs = [V.str a] ∧ PySem.intText? a = some n ∧ a.length ≤ 640 ∧ Q (.int n) H) (tCons ta tNil)) σ G (.int n) := fun H1 e Q q =>
  h H1 e _ fun H2 e2 => ⟨a, n, rfl, h1, h2, q H2 e2⟩
/-- calls -/
theorem ev_call1 {sp : Sp} {vs : List V} {E : XK} {ta : TA} (h : EvA ta σ G vs) (hs : ∀ H1, Ex G H1 → ∀ Q : VK, RetV z H1 Q → ∀ E, sp vs H1 Q E) : Ev (tCall sp [] E ta) σ G z :=
  ev_call h (by rw [List.append_nil]; exact fun H1 e Q q E => hs H1 e Q q E)
theorem el_call1 {sp : Sp} {vs xs : List V} {E : XK} {ta : TA} (h : EvA ta σ G vs) (hs : ∀ H1, Ex G H1 → ∀ Q : VK, RetL xs H1 Q → ∀ E, sp vs H1 Q E) : EvL (tCall sp [] E ta) σ G xs :=
  el_call h (by rw [List.append_nil]; exact fun H1 e Q q E => hs H1 e Q q E)
end
end GR
namespace GR
open PySem PySem.Spec PyProof.Rows L2 Evl
section
variable {K : PySem.W.Frag} {σ : L2.St} {G H H' : Hp} {ta tb tc te tx : TE} {t u : TT} {x y z v : V} {D : Ends} {tu tw tz : TS} {g : TG}
/-! ### dicts -/
def constPairs (kvs : List (Str × Int)) : List (TE × TE) := kvs.map fun p => (tC (.str p.1), tC (.int p.2))
theorem pairs_const : ∀ (kvs : List (Str × Int)) (σ : L2.St) (H : Hp) (F : List (V × V) → Hp → Prop), F (kvs.map fun p => (V.str p.1, V.int p.2)) H → tPairs (constPairs kvs) σ H F
  | [], _, _, _, h => h
  | p :: r, σ, H, F, h => pairs_const r σ H (fun ps H3 => F ((V.str p.1, V.int p.2) :: ps) H3) h
/-- d = {'a': 1, ..}, the rest -/
theorem a_setDC {i : Nat} (kvs : List (Str × Int)) (hl : kvs.length ≤ 15) (e : Ex G H) (k : ∀ p H1, G p = none → Ex (upd G p (.dK (mergeK [] (kvs.map fun x => ((Sum.inr x.1 : Key), V.int x.2))))) H1 → tz D (σ.set i (some (.ref p))) H1) : tSeq (tAsg (tDisp (constPairs kvs)) (gName i)) tz D σ H := fun p hp =>
  pairs_const kvs σ _ _ ⟨upd_same, kvs.map fun x => ((Sum.inr x.1 : Key), V.int x.2), by rw [List.map_map]; rfl, by rw [List.length_map]; exact hl, k p _ (fresh_back e hp) (by
    rw [upd_upd]
    exact ex_upd e p _)⟩
/-- d[k] -/
theorem ev_dget {p : Addr} {kvs : List (Key × V)} {k : Key} (h1 : Ev ta σ G (.ref p)) (h2 : Ev tb σ G (kV k)) (hp : G p = some (.dK kvs)) (hv : valV kvs k = some v) : Ev (tDGet ta tb) σ G v := fun H1 e Q q =>
  h1 H1 e _ fun H2 e2 => h2 H2 (e.trans e2) _ fun H3 e3 => ⟨p, v, rfl, by
    rw [← hv]
    exact DGet.k (((e.trans e2).trans e3) p _ hp), q H3 (e2.trans e3)⟩
/-- k in d, k not in d -/
theorem ev_din {p : Addr} {kvs : List (Key × V)} {k : Key} (h1 : Ev ta σ G (.ref p)) (h2 : Ev tb σ G (kV k)) (hp : G p = some (.dK kvs)) : Ev (tDIn tb ta) σ G (.bl (valV kvs k).isSome) := fun H1 e Q q =>
  h2 H1 e _ fun H2 e2 => h1 H2 (e.trans e2) _ fun H3 e3 => ⟨p, _, rfl, DGet.k (((e.trans e2).trans e3) p _ hp), q H3 (e2.trans e3)⟩
theorem ev_dnotin {p : Addr} {kvs : List (Key × V)} {k : Key} (h1 : Ev ta σ G (.ref p)) (h2 : Ev tb σ G (kV k)) (hp : G p = some (.dK kvs)) : Ev (tDNotIn tb ta) σ G (.bl (!(valV kvs k).isSome)) := fun H1 e Q q =>
  h2 H1 e _ fun H2 e2 => h1 H2 (e.trans e2) _ fun H3 e3 => ⟨p, _, rfl, DGet.k (((e.trans e2).trans e3) p _ hp), q H3 (e2.trans e3)⟩
/-- d = {}, the rest -/
theorem a_setD0 {i : Nat} (e : Ex G H) (k : ∀ p H1, G p = none → Ex (upd G p (.dK [])) H1 → tz D (σ.set i (some (.ref p))) H1) : tSeq (tAsg tDNewK (gName i)) tz D σ H := fun p hp =>
  k p _ (fresh_back e hp) (ex_upd e p _)
/-- d[k] = v, the rest -/
theorem a_dput {p : Addr} {kvs : List (Key × V)} {k : Key} (e : Ex G H) (h : Ev tc σ G v) (h1 : Ev ta σ G (.ref p)) (h2 : Ev tb σ G (kV k)) (hp : G p = some (.dK kvs)) (hz : kvs.length < 100000) (q : ∀ H1, Ex (upd G p (.dK (putK kvs k v))) H1 → tz D σ H1) : tSeq (sDPut ta tb tc) tz D σ H :=
  h H e _ fun H1 e1 => h1 H1 (e.trans e1) _ fun H2 e2 => h2 H2 ((e.trans e1).trans e2) _ fun H3 e3 => ⟨p, _, rfl, DPut.k ((((e.trans e1).trans e2).trans e3) p _ hp) (sz_lt hz), q _ (ex_upd (((e.trans e1).trans e2).trans e3) p _)⟩
theorem a_dput1 {p : Addr} {kvs : List (Key × V)} {k : Key} (e : Ex G H) (h : Ev tc σ G v) (h1 : Ev ta σ G (.ref p)) (h2 : Ev tb σ G (kV k)) (hp : G p = some (.dK kvs)) (hz : kvs.length < 100000) (q : ∀ H1, Ex (upd G p (.dK (putK kvs k v))) H1 → D.nx σ H1) : sDPut ta tb tc D σ H :=
  h H e _ fun H1 e1 => h1 H1 (e.trans e1) _ fun H2 e2 => h2 H2 ((e.trans e1).trans e2) _ fun H3 e3 => ⟨p, _, rfl, DPut.k ((((e.trans e1).trans e2).trans e3) p _ hp) (sz_lt hz), q _ (ex_upd (((e.trans e1).trans e2).trans e3) p _)⟩
/-- for x in xs -/
theorem a_forL {p : Addr} {xs : List V} {tl : TE} {j : Nat} (e : Ex G H) (h : Ev tl σ G (.ref p)) (hx : SqL K G p xs) (Pv : Nat → L2.St → Hp → Prop) (h0 : ∀ H1, Ex G H1 → Pv 0 σ H1) (hl : ∀ i σ' H', i ≤ xs.length → Pv i σ' H' → SqL K H' p xs)
    (hs : ∀ i x σ' H', xs[i]? = some x → Pv i σ' H' → tu { D with nx := Pv (i + 1), ct := Pv (i + 1), bk := tz D } (σ'.set j (some x)) H') (hd : ∀ σ' H', Pv xs.length σ' H' → tz D σ' H') : tSeq (tFor (iList K tl) (gName j) tu) tz D σ H :=
  q_forLn (h.mono e) (ex_l e hx) Pv (fun H1 e1 => h0 H1 (e.trans e1)) hl hs hd
theorem a_forNL {xs : List V} {tl : TE} {j : Nat} (e : Ex G H) (h : EvL tl σ G xs) (Pv : Addr → Nat → L2.St → Hp → Prop) (h0 : ∀ p H1, G p = none → Ex (upd G p (.lst xs)) H1 → Pv p 0 σ H1) (hl : ∀ p i σ' H', i ≤ xs.length → Pv p i σ' H' → SqL K H' p xs)
    (hs : ∀ p i x σ' H', xs[i]? = some x → Pv p i σ' H' → tu { D with nx := Pv p (i + 1), ct := Pv p (i + 1), bk := tz D } (σ'.set j (some x)) H') (hd : ∀ p σ' H', Pv p xs.length σ' H' → tz D σ' H') : tSeq (tFor (iList K tl) (gName j) tu) tz D σ H :=
  q_forNLn (h.mono e) Pv (fun p H1 hp e1 hx => h0 p H1 (fresh_back e hp) (ex_to (e.trans e1) hx)) hl hs hd
theorem a_forT {p : Addr} {xs : List V} {tl : TE} {j : Nat} (e : Ex G H) (h : Ev tl σ G (.ref p)) (hx : SqT K G p xs) (Pv : Nat → L2.St → Hp → Prop) (h0 : ∀ H1, Ex G H1 → Pv 0 σ H1) (hl : ∀ i σ' H', i ≤ xs.length → Pv i σ' H' → SqT K H' p xs)
    (hs : ∀ i x σ' H', xs[i]? = some x → Pv i σ' H' → tu { D with nx := Pv (i + 1), ct := Pv (i + 1), bk := tz D } (σ'.set j (some x)) H') (hd : ∀ σ' H', Pv xs.length σ' H' → tz D σ' H') : tSeq (tFor (iTup K tl) (gName j) tu) tz D σ H :=
  q_forT (h.mono e) (ex_t e hx) Pv (fun H1 e1 => h0 H1 (e.trans e1)) hl hs hd
end
end GR
namespace GR
open PySem PySem.Spec PyProof.Rows L2 Evl
section
variable {K : PySem.W.Frag} {σ : L2.St} {G H H' : Hp} {ta tb tc te tx : TE} {t u : TT} {x y z v : V} {D : Ends} {tu tw tz : TS} {g : TG}
/-- a new list of which P holds -/
def EvN (te : TE) (σ : L2.St) (G : Hp) (P : List V → Prop) : Prop := ∀ H1, Ex G H1 → ∀ Q : VK, (∀ xs p H2, P xs → H1 p = none → Ex H1 H2 → H2 p = some (.lst xs) → Q (.ref p) H2) → te σ H1 Q
theorem a_setN {i : Nat} {P : List V → Prop} (e : Ex G H) (h : EvN te σ G P) (k : ∀ xs p H1, P xs → G p = none → Ex (upd G p (.lst xs)) H1 → tz D (σ.set i (some (.ref p))) H1) : tSeq (tAsg te (gName i)) tz D σ H :=
  h H e _ fun xs p H1 hP hp e1 h1 => k xs p H1 hP (fresh_back e hp) (ex_to (e.trans e1) h1)
theorem en_callL {sp : Sp} {E : XK} {xs : List V} {P : List V → Prop} (h1 : Ev ta σ G x) (h2 : ∀ H1, Ex G H1 → EvL tb σ H1 xs) (hs : ∀ p H1, Ex G H1 → H1 p = some (.lst xs) → ∀ Q : VK, (∀ ys q H2, P ys → H1 q = none → Ex H1 H2 → H2 q = some (.lst ys) → Q (.ref q) H2) → ∀ E, sp [x, .ref p] H1 Q E) : EvN (tCall sp [] E (tCons ta (tCons tb tNil))) σ G P := fun H1 e Q q =>
  h1 H1 e _ fun H2 e2 => h2 H2 (e.trans e2) H2 (Ex.refl H2) _ fun p H3 hp e3 h3 => hs p H3 ((e.trans e2).trans e3) h3 Q (fun ys r H4 hP hr e4 h4 => q ys r H4 hP (fresh_back (e2.trans e3) hr) ((e2.trans e3).trans e4) h4) E
end
end GR
namespace GR
open PySem PySem.Spec PyProof.Rows L2 Evl
section
variable {X : Cx}
/-- xs + ys, two lists that may be read -/
def rCatL (K : PySem.W.Frag) : R2 := fun x y H Q => ∃ l b xs zs, x = .ref l ∧ y = .ref b ∧ SqL K H l xs ∧ SqL K H b zs ∧ xs.length + zs.length ≤ sizeLine ∧ ∀ p, H p = none → Q (.ref p) (upd H p (.lst (xs ++ zs)))
theorem op_catL : OpR X (binaryOp .Add) (rCatL X.K) := by
  intro pins s σ H x y v u Q I rx ry h
  obtain ⟨l, b, xs, zs, rfl, rfl, hH, hB, hz, q⟩ := h
  cases rx
  cases ry
  obtain ⟨its, r, pl, hl⟩ := I.list hH
  obtain ⟨its2, r2, pl2, hl2⟩ := I.list hB
  obtain ⟨⟨cls, dd, data, sl⟩, n, ho, hc, hdd, hd⟩ := id pl
  obtain ⟨⟨cls2, dd2, data2, sl2⟩, n2, ho2, hc2, hdd2, hd2⟩ := id pl2
  simp only at hc hd hc2 hd2
  subst hc hd hc2 hd2
  have e : its.toArray ++ its2.toArray = (its ++ its2).toArray := by simp
  have len1 := r.length
  have len2 := r2.length
  refine concat_meets ⟨_, ho, rfl⟩ ⟨_, ho2, rfl⟩ noFill_list_add seq_list_add PySem.F.slot_list_add PySem.F.entry_list_add (PySem.F.args_list_add_2 _ _) (list_addW l b its.toArray its2.toArray n n2 dd dd2 sl sl2 (by simp; omega)) ⟨ho, ho2, ?_⟩
  rw [e]
  exact ⟨.ref _, _, I.lnew (t' := s.toks) (r.append r2) (by rw [List.length_append]; omega), rfl, q _ I.fresh⟩
end
section
variable {K : PySem.W.Frag} {σ : L2.St} {G H H' : Hp} {ta tb tc te tx : TE} {t u : TT} {x y z v : V} {D : Ends} {tu tw tz : TS} {g : TG}
theorem el_catL {l b : Addr} {xs zs : List V} (h1 : Ev ta σ G (.ref l)) (h2 : Ev tb σ G (.ref b)) (s1 : SqL K G l xs) (s2 : SqL K G b zs) (hz : xs.length + zs.length ≤ 100000) : EvL (tOp (rCatL K) ta tb) σ G (xs ++ zs) := fun H1 e Q q =>
  h1 H1 e _ fun H2 e2 => h2 H2 (e.trans e2) _ fun H3 e3 => ⟨l, b, xs, zs, rfl, rfl, ex_l ((e.trans e2).trans e3) s1, ex_l ((e.trans e2).trans e3) s2, sz_of hz, fun p hp => q p _ (fresh_back (e2.trans e3) hp) ((e2.trans e3).trans (Ex.new hp)) upd_same⟩
/-- .. the first a new list, .. the second, .. both -/
theorem el_catNL {b : Addr} {xs zs : List V} (h1 : EvL ta σ G xs) (h2 : ∀ H1, Ex G H1 → Ev tb σ H1 (.ref b)) (s2 : SqL K G b zs) (hz : xs.length + zs.length ≤ 100000) : EvL (tOp (rCatL K) ta tb) σ G (xs ++ zs) := fun H1 e Q q =>
  h1 H1 e _ fun l H2 hl e2 hx => h2 H2 (e.trans e2) H2 (Ex.refl H2) _ fun H3 e3 => ⟨l, b, xs, zs, rfl, rfl, sq_of (e3 _ _ hx), ex_l ((e.trans e2).trans e3) s2, sz_of hz, fun p hp => q p _ (fresh_back (e2.trans e3) hp) ((e2.trans e3).trans (Ex.new hp)) upd_same⟩
theorem el_catLN {l : Addr} {xs zs : List V} (h1 : Ev ta σ G (.ref l)) (s1 : SqL K G l xs) (h2 : ∀ H1, Ex G H1 → EvL tb σ H1 zs) (hz : xs.length + zs.length ≤ 100000) : EvL (tOp (rCatL K) ta tb) σ G (xs ++ zs) := fun H1 e Q q =>
  h1 H1 e _ fun H2 e2 => h2 H2 (e.trans e2) H2 (Ex.refl H2) _ fun b H3 hb e3 hx => ⟨l, b, xs, zs, rfl, rfl, ex_l ((e.trans e2).trans e3) s1, sq_of hx, sz_of hz, fun p hp => q p _ (fresh_back (e2.trans e3) hp) ((e2.trans e3).trans (Ex.new hp)) upd_same⟩
theorem el_catNN {xs zs : List V} (h1 : EvL ta σ G xs) (h2 : ∀ H1, Ex G H1 → EvL tb σ H1 zs) (hz : xs.length + zs.length ≤ 100000) : EvL (tOp (rCatL K) ta tb) σ G (xs ++ zs) := fun H1 e Q q =>
  h1 H1 e _ fun l H2 hl e2 hx => h2 H2 (e.trans e2) H2 (Ex.refl H2) _ fun b H3 hb e3 hy => ⟨l, b, xs, zs, rfl, rfl, sq_of (e3 _ _ hx), sq_of hy, sz_of hz, fun p hp => q p _ (fresh_back (e2.trans e3) hp) ((e2.trans e3).trans (Ex.new hp)) upd_same⟩
/-- a slice of a new list -/
theorem el_slN {tl th : TO} {xs : List V} {lo hi : Option Int} (h : EvL te σ G xs) (h1 : ∀ H1, Ex G H1 → EvO tl σ H1 lo) (h2 : ∀ H1, Ex G H1 → EvO th σ H1 hi) : EvL (tSl (rSlL K) te tl th) σ G (cutV xs lo hi) := fun H1 e Q q =>
  h H1 e _ fun a H2 ha e2 hx => h1 H2 (e.trans e2) H2 (Ex.refl H2) _ fun H3 e3 => h2 H3 ((e.trans e2).trans e3) H3 (Ex.refl H3) _ fun H4 e4 =>
    ⟨a, xs, rfl, sq_of (e4 _ _ (e3 _ _ hx)), fun p hp => q p _ (fresh_back ((e2.trans e3).trans e4) hp) (((e2.trans e3).trans e4).trans (Ex.new hp)) upd_same⟩
theorem cutV_to {xs : List V} {n : Nat} : cutV xs none (some (n : Int)) = xs.take n := by
  unfold cutV
  rw [HT.sIx_none, show HT.sIx xs.length xs.length (some (n : Int)) = min n xs.length from HT.sIx_nat xs.length xs.length n]
  simp
theorem cutV_from {xs : List V} {n : Nat} : cutV xs (some (n : Int)) none = xs.drop n := by
  unfold cutV
  rw [HT.sIx_none, show HT.sIx xs.length 0 (some (n : Int)) = min n xs.length from HT.sIx_nat xs.length 0 n]
  by_cases h : n ≤ xs.length
  · rw [Nat.min_eq_left h]
    exact List.take_of_length_le (by rw [List.length_drop]; omega)
  · rw [Nat.min_eq_right (by omega), List.drop_of_length_le (Nat.le_refl _), List.drop_of_length_le (by omega)]
    simp
/-- an if's way out: what follows is shown once -/
theorem a_forNLm {xs : List V} {tl : TE} {j : Nat} (e : Ex G H) (h : EvL tl σ G xs) (Pv : Addr → Nat → L2.St → Hp → Prop) (h0 : ∀ p H1, G p = none → Ex (upd G p (.lst xs)) H1 → Pv p 0 σ H1) (hl : ∀ p i σ' H', i ≤ xs.length → Pv p i σ' H' → SqL K H' p xs)
    (hs : ∀ p i x σ' H', xs[i]? = some x → Pv p i σ' H' → tu { D with nx := Pv p (i + 1), ct := Pv p (i + 1), bk := tz D } (σ'.set j (some x)) H') (hd : ∀ p σ' H', Pv p xs.length σ' H' → tz D σ' H') : tSeq (tFor (iList K tl) (gName j) tu) tz D σ H :=
  a_forNL e h Pv h0 hl hs hd
end
end GR
namespace GR
open PySem PySem.Spec PyProof.Rows L2 Evl
section
variable {K : PySem.W.Frag} {σ : L2.St} {G H H' : Hp} {ta tb tc te tx : TE} {t u : TT} {x y z v : V} {D : Ends} {tu tw tz : TS} {g : TG}
/-- a value of which P holds, the heap but grown -/
def EvW (te : TE) (σ : L2.St) (G : Hp) (P : V → Prop) : Prop := ∀ H1, Ex G H1 → ∀ Q : VK, (∀ v H2, P v → Ex H1 H2 → Q v H2) → te σ H1 Q
theorem a_setV {i : Nat} {P : V → Prop} (e : Ex G H) (h : EvW te σ G P) (k : ∀ v H1, P v → Ex G H1 → tz D (σ.set i (some v)) H1) : tSeq (tAsg te (gName i)) tz D σ H :=
  h H e _ fun v H1 hP e1 => k v H1 hP (e.trans e1)
theorem ew_call {sp : Sp} {vs : List V} {E : XK} {ta : TA} {P : V → Prop} (h : EvA ta σ G vs) (hs : ∀ H1, Ex G H1 → ∀ Q : VK, (∀ v H2, P v → Ex H1 H2 → Q v H2) → ∀ E, sp vs H1 Q E) : EvW (tCall sp [] E ta) σ G P := fun H1 e Q q =>
  h H1 e _ fun H2 e2 => by
    rw [List.append_nil]
    exact hs H2 (e.trans e2) Q (fun v H3 hP e3 => q v H3 hP (e2.trans e3)) E
theorem eu_call {sp : Sp} {vs xs : List V} {E : XK} {ta : TA} (h : EvA ta σ G vs) (hs : ∀ H1, Ex G H1 → ∀ Q : VK, (∀ p H2, H1 p = none → Ex H1 H2 → H2 p = some (.tup xs) → Q (.ref p) H2) → ∀ E, sp vs H1 Q E) : EvU (tCall sp [] E ta) σ G xs := fun H1 e Q q =>
  h H1 e _ fun H2 e2 => by
    rw [List.append_nil]
    exact hs H2 (e.trans e2) Q (fun p H3 hp e3 h3 => q p H3 (fresh_back e2 hp) (e2.trans e3) h3) E
theorem en_call {sp : Sp} {vs : List V} {E : XK} {ta : TA} {P : List V → Prop} (h : EvA ta σ G vs) (hs : ∀ H1, Ex G H1 → ∀ Q : VK, (∀ xs p H2, P xs → H1 p = none → Ex H1 H2 → H2 p = some (.lst xs) → Q (.ref p) H2) → ∀ E, sp vs H1 Q E) : EvN (tCall sp [] E ta) σ G P := fun H1 e Q q =>
  h H1 e _ fun H2 e2 => by
    rw [List.append_nil]
    exact hs H2 (e.trans e2) Q (fun xs p H3 hP hp e3 h3 => q xs p H3 hP (fresh_back e2 hp) (e2.trans e3) h3) E
end
end GR
namespace GR
open PySem PySem.Spec PyProof.Rows L2 Evl
section
variable {K : PySem.W.Frag} {σ : L2.St} {G H H' : Hp} {ta tb tc te tx : TE} {t u : TT} {x y z v : V} {D : Ends} {tu tw tz : TS} {g : TG}
theorem et_yes : EvT tYes σ G true := fun H1 _ _ q => q H1 (Ex.refl H1)
/-! ### comprehensions -/
/-- one turn: the target, the test, the element, on the item x -/
def Turn1 (g : TG) (t : TT) (te : TE) (vs : List Nat) (σ : L2.St) (G : Hp) (fx : V → Option V) (x : V) : Prop :=
  ∃ σ2 : L2.St, (∀ H1, Ex G H1 → ∀ Q : L2.St → Hp → Prop, (∀ H2, Ex H1 H2 → Q σ2 H2) → g x (wipe σ vs) H1 Q) ∧ wipe σ2 vs = wipe σ vs ∧ EvT t σ2 G (fx x).isSome ∧ ∀ y, fx x = some y → Ev te σ2 G y
def CwF (G : Hp) (fx : V → Option V) (xs : List V) (Dl : Addr) (i : Nat) (H' : Hp) : Prop := G Dl = none ∧ Ex G H' ∧ H' Dl = some (.lst ((xs.take i).filterMap fx))
theorem cwF_turn {fx : V → Option V} {xs : List V} {vs : List Nat} {Dl : Addr} {i : Nat} (hi : xs[i]? = some x) (hz : xs.length ≤ 50000) (p : CwF G fx xs Dl i H') (h : Turn1 g t te vs σ G fx x) :
    g x (wipe σ vs) H' fun σ2 H2 => wipe σ2 vs = wipe σ vs ∧ t σ2 H2 fun b H3 => if b = true then te σ2 H3 fun y H4 => ∃ acc, H4 Dl = some (.lst acc) ∧ acc.length < sizeLine ∧ CwF G fx xs Dl (i + 1) (upd H4 Dl (.lst (acc ++ [y]))) else CwF G fx xs Dl (i + 1) H3 := by
  obtain ⟨p1, p2, p3⟩ := p
  obtain ⟨σ2, hg, hw, ht, he⟩ := h
  have hlt := (List.getElem?_eq_some_iff.mp hi).1
  have hx : xs[i] = x := (List.getElem?_eq_some_iff.mp hi).2
  refine hg H' p2 _ fun H2 e2 => ⟨hw, ht H2 (p2.trans e2) _ fun H3 e3 => ?_⟩
  have hlen : ((xs.take i).filterMap fx).length ≤ xs.length := by
    have h1 := List.length_filterMap_le fx (xs.take i)
    rw [List.length_take] at h1
    omega
  cases hf : fx x with
  | some y =>
    show te σ2 H3 fun y H4 => ∃ acc, H4 Dl = some (.lst acc) ∧ acc.length < sizeLine ∧ CwF G fx xs Dl (i + 1) (upd H4 Dl (.lst (acc ++ [y])))
    refine he y hf H3 ((p2.trans e2).trans e3) _ fun H4 e4 => ⟨_, e4 Dl _ (e3 Dl _ (e2 Dl _ p3)), sz_lt (by omega), p1, Ex.mut (((p2.trans e2).trans e3).trans e4) p1, ?_⟩
    rw [upd_same, List.take_add_one, List.getElem?_eq_getElem hlt, hx]
    simp [hf]
  | none =>
    show CwF G fx xs Dl (i + 1) H3
    refine ⟨p1, (p2.trans e2).trans e3, ?_⟩
    rw [List.take_add_one, List.getElem?_eq_getElem hlt, hx, e3 Dl _ (e2 Dl _ p3)]
    simp [hf]
theorem turn_mono {G1 : Hp} {fx : V → Option V} {vs : List Nat} (e : Ex G G1) (h : Turn1 g t te vs σ G fx x) : Turn1 g t te vs σ G1 fx x := by
  obtain ⟨σ2, hg, hw, ht, he⟩ := h
  exact ⟨σ2, fun H1 e1 Q q => hg H1 (e.trans e1) Q q, hw, ht.mono e, fun y hy => (he y hy).mono e⟩
/-- over a list, a tuple, a range -/
theorem el_fL {a : Addr} {xs : List V} {vs : List Nat} (fx : V → Option V) (h : Ev tx σ G (.ref a)) (hx : SqL K G a xs) (hz : xs.length ≤ 50000) (ht : ∀ x ∈ xs, Turn1 g t te vs σ G fx x) : EvL (tLc (iList K tx) g t te vs) σ G (xs.filterMap fx) := fun H0 e Q q => h H0 e _ fun H1 e1 => ⟨a, rfl, ⟨xs, ex_l (e.trans e1) hx⟩, fun Dl hD =>
  lc_list (xs := xs) (CwF H1 fx xs Dl) ⟨hD, Ex.new hD, upd_same⟩ (fun i H' _ p => ex_l ((e.trans e1).trans p.2.1) hx) (fun i x H' hi p => cwF_turn hi hz p (turn_mono (e.trans e1) (ht x (List.mem_of_getElem? hi))))
    (fun H' p => q Dl H' (fresh_back e1 p.1) (e1.trans p.2.1) (by rw [p.2.2, List.take_of_length_le (Nat.le_refl _)]))⟩
theorem el_fT {a : Addr} {xs : List V} {vs : List Nat} (fx : V → Option V) (h : Ev tx σ G (.ref a)) (hx : SqT K G a xs) (hz : xs.length ≤ 50000) (ht : ∀ x ∈ xs, Turn1 g t te vs σ G fx x) : EvL (tLc (iTup K tx) g t te vs) σ G (xs.filterMap fx) := fun H0 e Q q => h H0 e _ fun H1 e1 => ⟨a, rfl, ⟨xs, ex_t (e.trans e1) hx⟩, fun Dl hD =>
  lc_tup (xs := xs) (CwF H1 fx xs Dl) ⟨hD, Ex.new hD, upd_same⟩ (fun i H' _ p => ex_t ((e.trans e1).trans p.2.1) hx) (fun i x H' hi p => cwF_turn hi hz p (turn_mono (e.trans e1) (ht x (List.mem_of_getElem? hi))))
    (fun H' p => q Dl H' (fresh_back e1 p.1) (e1.trans p.2.1) (by rw [p.2.2, List.take_of_length_le (Nat.le_refl _)]))⟩
theorem el_fNL {xs : List V} {vs : List Nat} (fx : V → Option V) (h : EvL tx σ G xs) (hz : xs.length ≤ 50000) (ht : ∀ x ∈ xs, Turn1 g t te vs σ G fx x) : EvL (tLc (iList K tx) g t te vs) σ G (xs.filterMap fx) := fun H0 e Q q => h H0 e _ fun a H1 ha e1 hx => ⟨a, rfl, ⟨xs, sq_of hx⟩, fun Dl hD =>
  lc_list (xs := xs) (CwF H1 fx xs Dl) ⟨hD, Ex.new hD, upd_same⟩ (fun i H' _ p => sq_of (p.2.1 a _ hx)) (fun i x H' hi p => cwF_turn hi hz p (turn_mono (e.trans e1) (ht x (List.mem_of_getElem? hi))))
    (fun H' p => q Dl H' (fresh_back e1 p.1) (e1.trans p.2.1) (by rw [p.2.2, List.take_of_length_le (Nat.le_refl _)]))⟩
def rng (n : Int) : List V := (List.range n.toNat).map fun (i : Nat) => V.int (i : Int)
theorem rng_mem {n : Int} (h : x ∈ rng n) : ∃ i : Nat, x = .int (i : Int) ∧ (i : Int) < n := by
  obtain ⟨i, hi, rfl⟩ := List.mem_map.mp h
  exact ⟨i, rfl, by have := List.mem_range.mp hi; omega⟩
theorem el_fR {ta : TA} {vs : List Nat} {n : Int} (fx : V → Option V) (h : EvA ta σ G [.int n]) (hn : 0 ≤ n ∧ n ≤ 40000) (ht : ∀ i : Nat, (i : Int) < n → Turn1 g t te vs σ G fx (.int (i : Int))) : EvL (tLc (iRng1 ta) g t te vs) σ G ((rng n).filterMap fx) := fun H0 e Q q => h H0 e _ fun H1 e1 => ⟨n, rfl, by omega, by omega, fun Dl hD =>
  lc_range (lo := 0) (n := n.toNat) (CwF H1 fx (rng n) Dl) ⟨hD, Ex.new hD, upd_same⟩ (fun i H' hi p => by
    have e0 : (0 : Int) + (i : Int) = (i : Int) := Int.zero_add _
    rw [e0]
    have hx : (rng n)[i]? = some (V.int (i : Int)) := by
      unfold rng
      rw [List.getElem?_map, List.getElem?_range hi]
      rfl
    exact cwF_turn hx (by unfold rng; rw [List.length_map, List.length_range]; omega) p (turn_mono (e.trans e1) (ht i (by omega))))
    (fun H' p => q Dl H' (fresh_back e1 p.1) (e1.trans p.2.1) (by rw [p.2.2, List.take_of_length_le (by unfold rng; rw [List.length_map, List.length_range]; exact Nat.le_refl _)]))⟩
/-- a turn whose target is a name -/
theorem turn_name {j : Nat} {vs : List Nat} {fx : V → Option V} (hw : wipe ((wipe σ vs).set j (some x)) vs = wipe σ vs) (ht : EvT t ((wipe σ vs).set j (some x)) G (fx x).isSome) (he : ∀ y, fx x = some y → Ev te ((wipe σ vs).set j (some x)) G y) : Turn1 (gName j) t te vs σ G fx x :=
  ⟨_, fun H1 _ Q q => q H1 (Ex.refl H1), hw, ht, he⟩
/-- .. no test, the element a function of the item -/
theorem turn_map {j : Nat} {vs : List Nat} {f : V → V} (hw : wipe ((wipe σ vs).set j (some x)) vs = wipe σ vs) (he : Ev te ((wipe σ vs).set j (some x)) G (f x)) : Turn1 (gName j) tYes te vs σ G (fun x => some (f x)) x :=
  turn_name hw et_yes fun y hy => by
    obtain rfl := Option.some.inj hy
    exact he
/-- a target of three names -/
theorem g3 {i j k : Nat} {a : Addr} {Q : L2.St → Hp → Prop} (h : SqT K H a [x, y, z]) (q : Q (((σ.set i (some x)).set j (some y)).set k (some z)) H) : gTup K 3 (gCons (gName i) (gCons (gName j) (gCons (gName k) gNil))) (.ref a) σ H Q :=
  ⟨a, _, rfl, h, rfl, x, _, rfl, y, _, rfl, z, _, rfl, rfl, q⟩
theorem g2 {i j : Nat} {a : Addr} {Q : L2.St → Hp → Prop} (h : SqT K H a [x, y]) (q : Q ((σ.set i (some x)).set j (some y)) H) : gTup K 2 (gCons (gName i) (gCons (gName j) gNil)) (.ref a) σ H Q :=
  ⟨a, _, rfl, h, rfl, x, _, rfl, y, _, rfl, rfl, q⟩
theorem a_forTg {p : Addr} {xs : List V} {tl : TE} (e : Ex G H) (h : Ev tl σ G (.ref p)) (hx : SqT K G p xs) (Pv : Nat → L2.St → Hp → Prop) (h0 : ∀ H1, Ex G H1 → Pv 0 σ H1) (hl : ∀ i σ' H', i ≤ xs.length → Pv i σ' H' → SqT K H' p xs)
    (hs : ∀ i x σ' H', xs[i]? = some x → Pv i σ' H' → g x σ' H' fun σ2 H2 => tu { D with nx := Pv (i + 1), ct := Pv (i + 1), bk := tz D } σ2 H2) (hd : ∀ σ' H', Pv xs.length σ' H' → tz D σ' H') : tSeq (tFor (iTup K tl) g tu) tz D σ H :=
  q_forT (h.mono e) (ex_t e hx) Pv (fun H1 e1 => h0 H1 (e.trans e1)) hl hs hd
/-- x += n -/
theorem a_aug {i : Nat} {f : Int → Int → Int} {m n : Int} (e : Ex G H) (hx : σ[i]? = some (some (.int m))) (h : Ev te σ G (.int n)) (k : ∀ H1, Ex G H1 → tz D (σ.set i (some (.int (f m n)))) H1) : tSeq (tAug i te (ipI f)) tz D σ H :=
  q_aug hx (h.mono e) fun H1 e1 => k H1 (e.trans e1)
theorem a_aug1 {i : Nat} {f : Int → Int → Int} {m n : Int} (e : Ex G H) (hx : σ[i]? = some (some (.int m))) (h : Ev te σ G (.int n)) (k : ∀ H1, Ex G H1 → D.nx (σ.set i (some (.int (f m n)))) H1) : tAug i te (ipI f) D σ H :=
  s_aug hx (h.mono e) fun H1 e1 => k H1 (e.trans e1)
/-! ### calls of defs that may raise, and of defs that change what stands: what follows is handed to the promise -/
theorem a_callX {sp : Sp} {E : XK} {ta : TA} {vs : List V} (e : Ex G H) (h : EvA ta σ G vs) (k : ∀ H1, Ex G H1 → sp vs H1 (fun _ H2 => tz D σ H2) E) : tSeq (tDrop (tCall sp [] E ta)) tz D σ H :=
  h H e _ fun H1 e1 => by
    rw [List.append_nil]
    exact k H1 (e.trans e1)
theorem a_callX1 {sp : Sp} {E : XK} {ta : TA} {vs : List V} (e : Ex G H) (h : EvA ta σ G vs) (k : ∀ H1, Ex G H1 → sp vs H1 (fun _ H2 => D.nx σ H2) E) : tDrop (tCall sp [] E ta) D σ H :=
  h H e _ fun H1 e1 => by
    rw [List.append_nil]
    exact k H1 (e.trans e1)
theorem a_setX {sp : Sp} {E : XK} {ta : TA} {vs : List V} {i : Nat} (e : Ex G H) (h : EvA ta σ G vs) (k : ∀ H1, Ex G H1 → sp vs H1 (fun v H2 => tz D (σ.set i (some v)) H2) E) : tSeq (tAsg (tCall sp [] E ta) (gName i)) tz D σ H :=
  h H e _ fun H1 e1 => by
    rw [List.append_nil]
    exact k H1 (e.trans e1)
theorem a_retX {sp : Sp} {E : XK} {ta : TA} {vs : List V} (e : Ex G H) (h : EvA ta σ G vs) (k : ∀ H1, Ex G H1 → sp vs H1 D.rt E) : tRet (tCall sp [] E ta) D σ H :=
  h H e _ fun H1 e1 => by
    rw [List.append_nil]
    exact k H1 (e.trans e1)
/-! ### f-strings: some text -/
theorem js_nil {acc : Str} {Q : Str → Hp → Prop} (q : ∀ out H1, Ex G H1 → Q out H1) (e : Ex G H) : tJs [] acc σ H Q := q _ _ e
/-- parts that are short texts -/
def Parts : List TE → L2.St → Hp → Prop
  | [], _, _ => True
  | t :: ts, σ, G => (∃ y : Str, y.length ≤ 2000 ∧ Ev t σ G (.str y)) ∧ Parts ts σ G
theorem js_run : ∀ (ts : List TE) (acc : Str) (H : Hp) (Q : Str → Hp → Prop), Parts ts σ G → acc.length + 2000 * ts.length ≤ 100000 → Ex G H → (∀ out H1, Ex H H1 → Q out H1) → tJs ts acc σ H Q
  | [], acc, H, Q, _, _, _, q => q acc H (Ex.refl H)
  | t :: ts, acc, H, Q, ⟨⟨y, hy, h⟩, r⟩, hl, e, q => h H e _ fun H1 e1 => ⟨y, rfl, sz_of (by
      have : (acc ++ y).length = acc.length + y.length := PySem.Str.length_append _ _
      rw [List.length_cons] at hl
      omega), js_run ts (acc ++ y) H1 Q r (by
      have : (acc ++ y).length = acc.length + y.length := PySem.Str.length_append _ _
      rw [List.length_cons] at hl
      omega) (e.trans e1) fun out H2 e2 => q out H2 (e1.trans e2)⟩
end
theorem exm_two {K : PySem.W.Frag} {S C : Addr} (h1 : PySem.W.subIn K (.ref S) (.type "BaseException") = some true) (hb : PySem.W.subIn K (.ref C) (.type "BaseException") = some true) (h2 : PySem.W.isClsIn K C = true) (h3 : PySem.W.typeIn K (.ref C) = some (.type "type")) (h4 : PySem.W.subIn K (.ref S) (.ref C) = some true) :
    PySem.W.exmOne K (.ref S) (.ref C) = some true := by
  have e1 : (PySem.W.subIn K (.ref C) (.type "BaseException") == some true) = true := by rw [hb] <;> rfl
  have e2 : ((PySem.W.clsIn K C).isSome && PySem.W.typeIn K (.ref C) == some (.type "type")) = true := by
    have h2' : (PySem.W.clsIn K C).isSome = true := h2
    rw [h2', h3] <;> rfl
  show (if (PySem.W.subIn K (.ref C) (.type "BaseException") == some true) = true then (if ((PySem.W.clsIn K C).isSome && PySem.W.typeIn K (.ref C) == some (.type "type")) = true then PySem.W.subIn K (.ref S) (.ref C) else none) else none) = some true
  rw [if_pos e1, if_pos e2]
  exact h4
end GR
namespace GR
open PySem PySem.Spec PyProof.Rows L2 Evl
section
variable {K : PySem.W.Frag} {σ : L2.St} {G H H' : Hp} {ta tb tc te tx : TE} {t u : TT} {x y z v : V} {D : Ends} {tu tw tz : TS} {g : TG}
/-- loops that end a block -/
theorem a_forL1 {p : Addr} {xs : List V} {tl : TE} {j : Nat} (e : Ex G H) (h : Ev tl σ G (.ref p)) (hx : SqL K G p xs) (Pv : Nat → L2.St → Hp → Prop) (h0 : ∀ H1, Ex G H1 → Pv 0 σ H1) (hl : ∀ i σ' H', i ≤ xs.length → Pv i σ' H' → SqL K H' p xs)
    (hs : ∀ i x σ' H', xs[i]? = some x → Pv i σ' H' → tu { D with nx := Pv (i + 1), ct := Pv (i + 1), bk := D.nx } (σ'.set j (some x)) H') (hd : ∀ σ' H', Pv xs.length σ' H' → D.nx σ' H') : tFor (iList K tl) (gName j) tu D σ H :=
  s_forLn (h.mono e) (ex_l e hx) Pv (fun H1 e1 => h0 H1 (e.trans e1)) hl hs hd
theorem a_forTg1 {p : Addr} {xs : List V} {tl : TE} (e : Ex G H) (h : Ev tl σ G (.ref p)) (hx : SqT K G p xs) (Pv : Nat → L2.St → Hp → Prop) (h0 : ∀ H1, Ex G H1 → Pv 0 σ H1) (hl : ∀ i σ' H', i ≤ xs.length → Pv i σ' H' → SqT K H' p xs)
    (hs : ∀ i x σ' H', xs[i]? = some x → Pv i σ' H' → g x σ' H' fun σ2 H2 => tu { D with nx := Pv (i + 1), ct := Pv (i + 1), bk := D.nx } σ2 H2) (hd : ∀ σ' H', Pv xs.length σ' H' → D.nx σ' H') : tFor (iTup K tl) g tu D σ H :=
  s_forT (h.mono e) (ex_t e hx) Pv (fun H1 e1 => h0 H1 (e.trans e1)) hl hs hd
theorem a_forR1 {ta : TA} {j : Nat} {n : Int} (e : Ex G H) (h : EvA ta σ G [.int n]) (hn : 0 ≤ n ∧ n ≤ 100000) (Pv : Nat → L2.St → Hp → Prop) (h0 : ∀ H1, Ex G H1 → Pv 0 σ H1)
    (hs : ∀ (i : Nat) σ' H', (i : Int) < n → Pv i σ' H' → tu { D with nx := Pv (i + 1), ct := Pv (i + 1), bk := D.nx } (σ'.set j (some (.int (i : Int)))) H') (hd : ∀ σ' H', Pv n.toNat σ' H' → D.nx σ' H') : tFor (iRng1 ta) (gName j) tu D σ H :=
  s_forR1 (fun H1 e1 => h H1 (e.trans e1)) hn Pv (fun H1 e1 => h0 H1 (e.trans e1)) hs hd
end
end GR
namespace GR
theorem nd_t {p : Prop} [Decidable p] (h : (!decide p) = true) : ¬ p := fun q => by
  rw [decide_eq_true q] at h
  cases h
theorem nd_f {p : Prop} [Decidable p] (h : (!decide p) = false) : p := by
  by_cases q : p
  · exact q
  · rw [decide_eq_false q] at h
    cases h
end GR
namespace GR
open PySem PySem.Spec PyProof.Rows L2 Evl
section
variable {K : PySem.W.Frag} {σ : L2.St} {G H H' : Hp} {ta tb tc te tx : TE} {t u : TT} {x y z v : V} {D : Ends} {tu tw tz : TS} {g : TG}
/-- f(e, [..]): the second argument a new list -/
theorem ev_callL {sp : Sp} {E : XK} {xs : List V} (h1 : Ev ta σ G x) (h2 : ∀ H1, Ex G H1 → EvL tb σ H1 xs) (hs : ∀ p H1, Ex G H1 → H1 p = some (.lst xs) → ∀ Q : VK, RetV z H1 Q → ∀ E, sp [x, .ref p] H1 Q E) : Ev (tCall sp [] E (tCons ta (tCons tb tNil))) σ G z := fun H1 e Q q =>
  h1 H1 e _ fun H2 e2 => h2 H2 (e.trans e2) H2 (Ex.refl H2) _ fun p H3 hp e3 h3 => hs p H3 ((e.trans e2).trans e3) h3 Q (fun H4 e4 => q H4 ((e2.trans e3).trans e4)) E
end
end GR
namespace GR
open PySem PySem.Spec PyProof.Rows L2 Evl
section
variable {X : Cx} {K : PySem.W.Frag}
/-- rules that speak of the written part, within a comprehension -/
theorem ixK {r : PySem.W.Frag → R2} (h : IxR X (r X.K)) (e : X.K = K) : IxR X (r K) := e ▸ h
theorem opK {f : Value → Value → Sem Value} {r : PySem.W.Frag → R2} (h : OpR X f (r X.K)) (e : X.K = K) : OpR X f (r K) := e ▸ h
theorem callK {f : Value} {r : PySem.W.Frag → List V → Hp → VK → Prop} (h : CallR X f (r X.K)) (e : X.K = K) : CallR X f (r K) := e ▸ h
theorem slK {r : PySem.W.Frag → V → Option Int → Option Int → Hp → VK → Prop} (h : SlR X (r X.K)) (e : X.K = K) : SlR X (r K) := e ▸ h
def rTupOf (K : PySem.W.Frag) : List V → Hp → VK → Prop := fun xs H Q => ∃ p ys, xs = [.ref p] ∧ ((SqL K H p ys ∧ ∀ l, H l = none → Q (.ref l) (upd H l (.tup ys))) ∨ (SqT K H p ys ∧ Q (.ref p) H))
end
end GR
namespace GR
open PySem PySem.Spec PyProof.Rows L2 Evl
section
variable {α : Type} {K : PySem.W.Frag} {σ : L2.St} {G H H' : Hp} {ta tb tc te tx : TE} {t u : TT} {x y z v : V} {D : Ends} {tu tw tz : TS} {g : TG}
/-! ### comprehensions over what stands for data cs, item by item -/
def CwD (G : Hp) (F : α → Option V) (cs : List α) (Dl : Addr) (i : Nat) (H' : Hp) : Prop := G Dl = none ∧ Ex G H' ∧ H' Dl = some (.lst ((cs.take i).filterMap F))
theorem cwD_turn {F : α → Option V} {cs : List α} {c : α} {vs : List Nat} {Dl : Addr} {i : Nat} (hi : cs[i]? = some c) (hz : cs.length ≤ 50000) (p : CwD G F cs Dl i H') (h : Turn1 g t te vs σ G (fun _ => F c) x) :
    g x (wipe σ vs) H' fun σ2 H2 => wipe σ2 vs = wipe σ vs ∧ t σ2 H2 fun b H3 => if b = true then te σ2 H3 fun y H4 => ∃ acc, H4 Dl = some (.lst acc) ∧ acc.length < sizeLine ∧ CwD G F cs Dl (i + 1) (upd H4 Dl (.lst (acc ++ [y]))) else CwD G F cs Dl (i + 1) H3 := by
  obtain ⟨p1, p2, p3⟩ := p
  obtain ⟨σ2, hg, hw, ht, he⟩ := h
  have hlt := (List.getElem?_eq_some_iff.mp hi).1
  have hx : cs[i] = c := (List.getElem?_eq_some_iff.mp hi).2
  refine hg H' p2 _ fun H2 e2 => ⟨hw, ht H2 (p2.trans e2) _ fun H3 e3 => ?_⟩
  have hlen : ((cs.take i).filterMap F).length ≤ cs.length := by
    have h1 := List.length_filterMap_le F (cs.take i)
    rw [List.length_take] at h1
    omega
  cases hf : F c with
  | some y =>
    show te σ2 H3 fun y H4 => ∃ acc, H4 Dl = some (.lst acc) ∧ acc.length < sizeLine ∧ CwD G F cs Dl (i + 1) (upd H4 Dl (.lst (acc ++ [y])))
    refine he y hf H3 ((p2.trans e2).trans e3) _ fun H4 e4 => ⟨_, e4 Dl _ (e3 Dl _ (e2 Dl _ p3)), sz_lt (by omega), p1, Ex.mut (((p2.trans e2).trans e3).trans e4) p1, ?_⟩
    rw [upd_same, List.take_add_one, List.getElem?_eq_getElem hlt, hx]
    simp [hf]
  | none =>
    show CwD G F cs Dl (i + 1) H3
    refine ⟨p1, (p2.trans e2).trans e3, ?_⟩
    rw [List.take_add_one, List.getElem?_eq_getElem hlt, hx, e3 Dl _ (e2 Dl _ p3)]
    simp [hf]
theorem el_dT {a : Addr} {xs : List V} {cs : List α} {vs : List Nat} (F : α → Option V) (h : Ev tx σ G (.ref a)) (hx : SqT K G a xs) (hl : xs.length = cs.length) (hz : cs.length ≤ 50000) (ht : ∀ (i : Nat) x c, xs[i]? = some x → cs[i]? = some c → Turn1 g t te vs σ G (fun _ => F c) x) : EvL (tLc (iTup K tx) g t te vs) σ G (cs.filterMap F) := fun H0 e Q q => h H0 e _ fun H1 e1 => ⟨a, rfl, ⟨xs, ex_t (e.trans e1) hx⟩, fun Dl hD =>
  lc_tup (xs := xs) (CwD H1 F cs Dl) ⟨hD, Ex.new hD, upd_same⟩ (fun i H' _ p => ex_t ((e.trans e1).trans p.2.1) hx) (fun i x H' hi p => by
    have hlt : i < cs.length := by rw [← hl]; exact (List.getElem?_eq_some_iff.mp hi).1
    exact cwD_turn (List.getElem?_eq_getElem hlt) hz p (turn_mono (e.trans e1) (ht i x _ hi (List.getElem?_eq_getElem hlt))))
    (fun H' p => q Dl H' (fresh_back e1 p.1) (e1.trans p.2.1) (by rw [p.2.2, List.take_of_length_le (by omega)]))⟩
theorem el_dL {a : Addr} {xs : List V} {cs : List α} {vs : List Nat} (F : α → Option V) (h : Ev tx σ G (.ref a)) (hx : SqL K G a xs) (hl : xs.length = cs.length) (hz : cs.length ≤ 50000) (ht : ∀ (i : Nat) x c, xs[i]? = some x → cs[i]? = some c → Turn1 g t te vs σ G (fun _ => F c) x) : EvL (tLc (iList K tx) g t te vs) σ G (cs.filterMap F) := fun H0 e Q q => h H0 e _ fun H1 e1 => ⟨a, rfl, ⟨xs, ex_l (e.trans e1) hx⟩, fun Dl hD =>
  lc_list (xs := xs) (CwD H1 F cs Dl) ⟨hD, Ex.new hD, upd_same⟩ (fun i H' _ p => ex_l ((e.trans e1).trans p.2.1) hx) (fun i x H' hi p => by
    have hlt : i < cs.length := by rw [← hl]; exact (List.getElem?_eq_some_iff.mp hi).1
    exact cwD_turn (List.getElem?_eq_getElem hlt) hz p (turn_mono (e.trans e1) (ht i x _ hi (List.getElem?_eq_getElem hlt))))
    (fun H' p => q Dl H' (fresh_back e1 p.1) (e1.trans p.2.1) (by rw [p.2.2, List.take_of_length_le (by omega)]))⟩
/-- .. over range(n), the turn by its number -/
theorem el_dR {ta : TA} {vs : List Nat} {n : Int} (F : Nat → Option V) (h : EvA ta σ G [.int n]) (hn : 0 ≤ n ∧ n ≤ 40000) (ht : ∀ i : Nat, (i : Int) < n → Turn1 g t te vs σ G (fun _ => F i) (.int (i : Int))) : EvL (tLc (iRng1 ta) g t te vs) σ G ((List.range n.toNat).filterMap F) := fun H0 e Q q => h H0 e _ fun H1 e1 => ⟨n, rfl, by omega, by omega, fun Dl hD =>
  lc_range (lo := 0) (n := n.toNat) (CwD H1 F (List.range n.toNat) Dl) ⟨hD, Ex.new hD, upd_same⟩ (fun i H' hi p => by
    have e0 : (0 : Int) + (i : Int) = (i : Int) := Int.zero_add _
    rw [e0]
    exact cwD_turn (List.getElem?_range hi) (by rw [List.length_range]; omega) p (turn_mono (e.trans e1) (ht i (by omega))))
    (fun H' p => q Dl H' (fresh_back e1 p.1) (e1.trans p.2.1) (by rw [p.2.2, List.take_of_length_le (by rw [List.length_range]; exact Nat.le_refl _)]))⟩
theorem turn_nameD {j : Nat} {vs : List Nat} {o : Option V} (hw : wipe ((wipe σ vs).set j (some x)) vs = wipe σ vs) (ht : EvT t ((wipe σ vs).set j (some x)) G o.isSome) (he : ∀ y, o = some y → Ev te ((wipe σ vs).set j (some x)) G y) : Turn1 (gName j) t te vs σ G (fun _ => o) x :=
  ⟨_, fun H1 _ Q q => q H1 (Ex.refl H1), hw, ht, he⟩
theorem turn_mapD {j : Nat} {vs : List Nat} (hw : wipe ((wipe σ vs).set j (some x)) vs = wipe σ vs) (he : Ev te ((wipe σ vs).set j (some x)) G y) : Turn1 (gName j) tYes te vs σ G (fun _ => some y) x :=
  turn_nameD hw et_yes fun z hz => by
    obtain rfl := Option.some.inj hz
    exact he
theorem fm_map {β : Type} (F : α → β) (cs : List α) : cs.filterMap (fun c => some (F c)) = cs.map F := by
  induction cs with
  | nil => rfl
  | cons c r ih => rw [List.filterMap_cons, List.map_cons, ih]
end
end GR
namespace GR
open PySem PySem.Spec PyProof.Rows L2 Evl
theorem pgK {X : Cx} {K : PySem.W.Frag} {tg : Expr} {n : Nat} {t : TGs} (h : PG X tg (gTup X.K n t)) (e : X.K = K) : PG X tg (gTup K n t) := e ▸ h
end GR
namespace GR
open PySem PySem.Spec PyProof.Rows L2 Evl
section
variable {K : PySem.W.Frag} {σ : L2.St} {G H H' : Hp} {ta tb tc te tx : TE} {t u : TT} {x y z v : V} {D : Ends} {tu tw tz : TS} {g : TG}
theorem seqIx {k n : Nat} (h : k < n) : seqIndex? (k : Int) n = some k := by
  unfold seqIndex?
  simp
  omega
/-- xs.append(ys.pop(k)) -/
theorem a_appPop1 {l m : Addr} {xs ys : List V} {k : Nat} (e : Ex G H) (ha : Ev ta σ G (.ref l)) (hl : G l = some (.lst xs)) (hb : Ev tb σ G (.ref m)) (hm : G m = some (.lst ys)) (hlm : l ≠ m) (hi : Ev te σ G (.int (k : Int))) (hk : ys[k]? = some y) (hz : xs.length < 100000) (hy : ys.length < 100000)
    (q : ∀ H1, Ex (upd (upd G m (.lst (ys.eraseIdx k))) l (.lst (xs ++ [y]))) H1 → D.nx σ H1) : tDrop (tBM K "list" rAppend ta (tCons (tBM K "list" rPopAt tb (tCons te tNil)) tNil)) D σ H := by
  have hlt := (List.getElem?_eq_some_iff.mp hk).1
  exact ha H e _ fun H1 e1 => ⟨Or.inl ⟨rfl, xs, sq_of (e1 l _ (e l _ hl))⟩, hb H1 (e.trans e1) _ fun H2 e2 => ⟨Or.inl ⟨rfl, ys, sq_of (e2 m _ (e1 m _ (e m _ hm)))⟩, hi H2 ((e.trans e1).trans e2) _ fun H3 e3 =>
    ⟨m, ys, (k : Int), k, y, rfl, rfl, e3 m _ (e2 m _ (e1 m _ (e m _ hm))), by omega, by omega, seqIx hlt, hk, ⟨l, xs, y, rfl, rfl, by rw [upd_ne hlm]; exact e3 l _ (e2 l _ (e1 l _ (e l _ hl))), sz_lt hz, q _ (ex_upd (ex_upd (((e.trans e1).trans e2).trans e3) m _) l _)⟩⟩⟩⟩
/-- list(range(n)) -/
theorem el_listRg {n : Int} (h : Ev ta σ G (.int n)) (hn : 0 ≤ n ∧ n ≤ 100000) : EvL (tLstRg (tRg1 ta)) σ G (rng n) := fun H1 e Q q => h H1 e _ fun H2 e2 => ⟨n, rfl, by
    have e0 : rgV 0 n = rng n := by
      unfold rgV rng
      simp
    show RgOk 0 n ∧ ∀ (q : Addr), H2 q = none → Q (V.ref q) (upd H2 q (HO.lst (rgV 0 n)))
    rw [e0]
    refine ⟨?_, fun p hp => q p _ (fresh_back e2 hp) (e2.trans (Ex.new hp)) upd_same⟩
    unfold RgOk
    refine ⟨by omega, by omega, by omega, ?_⟩
    omega⟩
/-- tuple(xs) of a list, of a new one -/
theorem eu_tupL {p : Addr} {xs : List V} (ha : Ev ta σ G (.ref p)) (h : SqL K G p xs) : EvU (tCB (fun xs H Q => ∃ p ys, xs = [V.ref p] ∧ ((SqL K H p ys ∧ ∀ l, H l = none → Q (.ref l) (upd H l (.tup ys))) ∨ (SqT K H p ys ∧ Q (.ref p) H))) (tCons ta tNil)) σ G xs := fun H1 e Q q =>
  ha H1 e _ fun H2 e2 => ⟨p, xs, rfl, Or.inl ⟨ex_l (e.trans e2) h, fun l hl => q l _ (fresh_back e2 hl) (e2.trans (Ex.new hl)) upd_same⟩⟩
theorem eu_tupN {xs : List V} (ha : EvL ta σ G xs) : EvU (tCB (fun xs H Q => ∃ p ys, xs = [V.ref p] ∧ ((SqL K H p ys ∧ ∀ l, H l = none → Q (.ref l) (upd H l (.tup ys))) ∨ (SqT K H p ys ∧ Q (.ref p) H))) (tCons ta tNil)) σ G xs := fun H1 e Q q =>
  ha H1 e _ fun p H2 hp e2 h2 => ⟨p, xs, rfl, Or.inl ⟨sq_of h2, fun l hl => q l _ (fresh_back e2 hl) (e2.trans (Ex.new hl)) upd_same⟩⟩
theorem ev_min2 {i j : Int} (ha : Ev ta σ G (.int i)) (hb : Ev tb σ G (.int j)) : Ev (tCB (fun xs H Q => ∃ i j, xs = [V.int i, V.int j] ∧ Q (.int (if j < i then j else i)) H) (tCons ta (tCons tb tNil))) σ G (.int (if j < i then j else i)) := fun H1 e Q q =>
  ha H1 e _ fun H2 e2 => hb H2 (e.trans e2) _ fun H3 e3 => ⟨i, j, rfl, q H3 (e2.trans e3)⟩
theorem ev_max2' {i j : Int} (ha : Ev ta σ G (.int i)) (hb : Ev tb σ G (.int j)) : Ev (tCB (fun xs H Q => ∃ i j, xs = [V.int i, V.int j] ∧ Q (.int (if j > i then j else i)) H) (tCons ta (tCons tb tNil))) σ G (.int (if j > i then j else i)) := fun H1 e Q q =>
  ha H1 e _ fun H2 e2 => hb H2 (e.trans e2) _ fun H3 e3 => ⟨i, j, rfl, q H3 (e2.trans e3)⟩
/-- for i in range(a, b) -/
theorem a_forR2 {ta : TA} {j : Nat} {lo n : Int} (e : Ex G H) (h : EvA ta σ G [.int lo, .int n]) (hn : 0 ≤ lo ∧ lo ≤ 100000 ∧ -100000 ≤ n ∧ n ≤ 100000) (Pv : Nat → L2.St → Hp → Prop) (h0 : ∀ H1, Ex G H1 → Pv 0 σ H1)
    (hs : ∀ (i : Nat) σ' H', lo + (i : Int) < n → Pv i σ' H' → tu { D with nx := Pv (i + 1), ct := Pv (i + 1), bk := tz D } (σ'.set j (some (.int (lo + (i : Int))))) H') (hd : ∀ σ' H', Pv (n - lo).toNat σ' H' → tz D σ' H') : tSeq (tFor (iRng2 ta) (gName j) tu) tz D σ H :=
  q_forR2 (fun H1 e1 => h H1 (e.trans e1)) hn Pv (fun H1 e1 => h0 H1 (e.trans e1)) hs hd
/-- a value of which P holds where it stands -/
def EvP (te : TE) (σ : L2.St) (G : Hp) (P : V → Hp → Prop) : Prop := ∀ H1, Ex G H1 → ∀ Q : VK, (∀ v H2, Ex H1 H2 → P v H2 → Q v H2) → te σ H1 Q
theorem a_setP {i : Nat} {P : V → Hp → Prop} (e : Ex G H) (h : EvP te σ G P) (k : ∀ v H1, Ex G H1 → P v H1 → tz D (σ.set i (some v)) H1) : tSeq (tAsg te (gName i)) tz D σ H :=
  h H e _ fun v H1 e1 hP => k v H1 (e.trans e1) hP
theorem ep_call {sp : Sp} {vs : List V} {E : XK} {ta : TA} {P : V → Hp → Prop} (h : EvA ta σ G vs) (hs : ∀ H1, Ex G H1 → ∀ Q : VK, (∀ v H2, Ex H1 H2 → P v H2 → Q v H2) → ∀ E, sp vs H1 Q E) : EvP (tCall sp [] E ta) σ G P := fun H1 e Q q =>
  h H1 e _ fun H2 e2 => by
    rw [List.append_nil]
    exact hs H2 (e.trans e2) Q (fun v H3 e3 hP => q v H3 (e2.trans e3) hP) E
/-- arguments of which P holds -/
def EvAP (ta : TA) (σ : L2.St) (G : Hp) (P : List V → Hp → Prop) : Prop := ∀ H1, Ex G H1 → ∀ Q : List V → Hp → Prop, (∀ vs H2, Ex H1 H2 → P vs H2 → Q vs H2) → ta σ H1 Q
theorem ep_callP {sp : Sp} {E : XK} {ta : TA} {R : List V → Hp → Prop} {P : V → Hp → Prop} (h : EvAP ta σ G R) (hs : ∀ vs H1, Ex G H1 → R vs H1 → ∀ Q : VK, (∀ v H2, Ex H1 H2 → P v H2 → Q v H2) → ∀ E, sp vs H1 Q E) : EvP (tCall sp [] E ta) σ G P := fun H1 e Q q =>
  h H1 e _ fun vs H2 e2 hR => by
    rw [List.append_nil]
    exact hs vs H2 (e.trans e2) hR Q (fun v H3 e3 hP => q v H3 (e2.trans e3) hP) E
theorem eap_of {ta : TA} {vs : List V} (h : EvA ta σ G vs) : EvAP ta σ G (fun ws _ => ws = vs) := fun H1 e Q q => h H1 e _ fun H2 e2 => q vs H2 e2 rfl
theorem a_retP {P : V → Hp → Prop} (e : Ex G H) (h : EvP te σ G P) (k : ∀ v H1, Ex G H1 → P v H1 → D.rt v H1) : tRet te D σ H := h H e _ fun v H1 e1 hP => k v H1 (e.trans e1) hP
end
end GR
namespace GR
open PySem PySem.Spec PyProof.Rows L2 Evl
section
variable {K : PySem.W.Frag} {σ : L2.St} {G H H' : Hp} {ta tb tc te tx : TE} {t u : TT} {x y z v : V} {D : Ends} {tu tw tz : TS} {g : TG}
/-- an if without else, what follows shown once, from M -/
theorem a_whenS {M : L2.St → Hp → Prop} {b : Bool} (e : Ex G H) (h : EvT t σ G b) (h1 : b = true → ∀ H1, Ex G H1 → tu { D with nx := M } σ H1) (h2 : b = false → ∀ H1, Ex G H1 → M σ H1) (k : ∀ σ' H', M σ' H' → tz D σ' H') : tCut (tIfS t tu tNext) tz D σ H :=
  ⟨M, a_if (D := { D with nx := M }) e h h1 h2, k⟩
theorem a_ifS {M : L2.St → Hp → Prop} {b : Bool} (e : Ex G H) (h : EvT t σ G b) (h1 : b = true → ∀ H1, Ex G H1 → tu { D with nx := M } σ H1) (h2 : b = false → ∀ H1, Ex G H1 → tw { D with nx := M } σ H1) (k : ∀ σ' H', M σ' H' → tz D σ' H') : tCut (tIfS t tu tw) tz D σ H :=
  ⟨M, a_if (D := { D with nx := M }) e h h1 h2, k⟩
end
end GR
namespace GR
open PySem PySem.Spec PyProof.Rows L2 Evl
section
variable {K : PySem.W.Frag} {σ : L2.St} {G H H' : Hp} {ta tb tc te tx : TE} {t u : TT} {x y z v : V} {D : Ends} {tu tw tz : TS} {g : TG}
/-- a predicate of a value, of values, that stays when the heap grows -/
def MonoP (P : V → Hp → Prop) : Prop := ∀ v H H', Ex H H' → P v H → P v H'
def MonoR (R : List V → Hp → Prop) : Prop := ∀ v H H', Ex H H' → R v H → R v H'
theorem ep_of (h : Ev te σ G v) : EvP te σ G (fun w _ => w = v) := fun H1 e Q q => h H1 e _ fun H2 e2 => q v H2 e2 rfl
theorem ep_U {xs : List V} (h : EvU te σ G xs) : EvP te σ G (fun w H => ∃ p, w = .ref p ∧ H p = some (.tup xs)) := fun H1 e Q q => h H1 e _ fun p H2 _ e2 h2 => q _ H2 e2 ⟨p, rfl, h2⟩
theorem ep_L {xs : List V} (h : EvL te σ G xs) : EvP te σ G (fun w H => ∃ p, w = .ref p ∧ H p = some (.lst xs)) := fun H1 e Q q => h H1 e _ fun p H2 _ e2 h2 => q _ H2 e2 ⟨p, rfl, h2⟩
theorem mono_v {v : V} : MonoP (fun w _ => w = v) := fun _ _ _ _ h => h
theorem mono_U {xs : List V} : MonoP (fun w H => ∃ p, w = .ref p ∧ H p = some (.tup xs)) := fun _ _ _ e ⟨p, a, b⟩ => ⟨p, a, e _ _ b⟩
theorem mono_L {xs : List V} : MonoP (fun w H => ∃ p, w = .ref p ∧ H p = some (.lst xs)) := fun _ _ _ e ⟨p, a, b⟩ => ⟨p, a, e _ _ b⟩
def RNil : List V → Hp → Prop := fun vs _ => vs = []
def RCons (P : V → Hp → Prop) (R : List V → Hp → Prop) : List V → Hp → Prop := fun vs H => ∃ v r, vs = v :: r ∧ P v H ∧ R r H
theorem mono_nil : MonoR RNil := fun _ _ _ _ h => h
theorem mono_cons {P : V → Hp → Prop} {R : List V → Hp → Prop} (h1 : MonoP P) (h2 : MonoR R) : MonoR (RCons P R) := fun _ _ _ e ⟨v, r, a, b, c⟩ => ⟨v, r, a, h1 _ _ _ e b, h2 _ _ _ e c⟩
theorem eap_nil : EvAP tNil σ G RNil := fun H1 _ _ q => q [] H1 (Ex.refl H1) rfl
theorem eap_cons {tr : TA} {P : V → Hp → Prop} {R : List V → Hp → Prop} (h : EvP te σ G P) (m : MonoP P) (hr : EvAP tr σ G R) : EvAP (tCons te tr) σ G (RCons P R) := fun H1 e Q q =>
  h H1 e _ fun v H2 e2 hP => hr H2 (e.trans e2) _ fun vs H3 e3 hR => q _ H3 (e2.trans e3) ⟨v, vs, rfl, m _ _ _ e3 hP, hR⟩
theorem ep_tup {tr : TA} {R : List V → Hp → Prop} {n : Nat} (h : EvAP tr σ G R) (m : MonoR R) (hn : ∀ vs H, R vs H → vs.length = n) (hz : n ≤ 100000) : EvP (tTup tr) σ G (fun w H => ∃ p vs, w = .ref p ∧ H p = some (.tup vs) ∧ R vs H) := fun H1 e Q q =>
  h H1 e _ fun vs H2 e2 hR => ⟨sz_of (by rw [hn vs H2 hR]; exact hz), fun p hp => q _ _ (e2.trans (Ex.new hp)) ⟨p, vs, rfl, upd_same, m _ _ _ (Ex.new hp) hR⟩⟩
theorem mono_tup {R : List V → Hp → Prop} (m : MonoR R) : MonoP (fun w H => ∃ p vs, w = .ref p ∧ H p = some (.tup vs) ∧ R vs H) := fun _ _ _ e ⟨p, vs, a, b, c⟩ => ⟨p, vs, a, e _ _ b, m _ _ _ e c⟩
theorem len_nil : ∀ vs H, RNil vs H → vs.length = 0 := fun _ _ h => by rw [h]; rfl
theorem len_cons {P : V → Hp → Prop} {R : List V → Hp → Prop} {n : Nat} (h : ∀ vs H, R vs H → vs.length = n) : ∀ vs H, RCons P R vs H → vs.length = n + 1 := fun _ _ ⟨v, r, a, _, c⟩ => by rw [a, List.length_cons, h _ _ c]
/-- xs.append(e), e a value of which P holds -/
theorem a_appP1 {P : V → Hp → Prop} {l : Addr} {xs : List V} (e : Ex G H) (ha : Ev ta σ G (.ref l)) (hl : G l = some (.lst xs)) (h : EvP te σ G P) (hz : xs.length < 100000) (k : ∀ v H1, Ex G H1 → P v H1 → D.nx σ (upd H1 l (.lst (xs ++ [v])))) :
    tDrop (tBM K "list" rAppend ta (tCons te tNil)) D σ H :=
  ha H e _ fun H1 e1 => ⟨Or.inl ⟨rfl, xs, sq_of (e1 l _ (e l _ hl))⟩, h H1 (e.trans e1) _ fun v H2 e2 hP => ⟨l, xs, v, rfl, rfl, e2 l _ (e1 l _ (e l _ hl)), sz_lt hz, k v H2 ((e.trans e1).trans e2) hP⟩⟩
theorem a_appP {P : V → Hp → Prop} {l : Addr} {xs : List V} (e : Ex G H) (ha : Ev ta σ G (.ref l)) (hl : G l = some (.lst xs)) (h : EvP te σ G P) (hz : xs.length < 100000) (k : ∀ v H1, Ex G H1 → P v H1 → tz D σ (upd H1 l (.lst (xs ++ [v])))) :
    tSeq (tDrop (tBM K "list" rAppend ta (tCons te tNil))) tz D σ H := a_appP1 (D := { D with nx := tz D }) e ha hl h hz k
/-- tuples stay when a list changes -/
theorem st_upd {l a : Addr} {xs ys : List V} {o : HO} (h : SqT K H a xs) (hl : H l = some (.lst ys)) : SqT K (upd H l o) a xs := by
  rcases h with (h | ⟨ob, h⟩) | h
  · exact .inl (.inl (by rw [upd_ne (ne_of h hl (by intro z; cases z))]; exact h))
  · exact .inl (.inr ⟨ob, by rw [upd_ne (ne_of h hl (by intro z; cases z))]; exact h⟩)
  · exact .inr h
theorem a_retP' {P : V → Hp → Prop} (h : EvP te σ H P) (k : ∀ v H1, Ex H H1 → P v H1 → D.rt v H1) : tRet te D σ H := a_retP (Ex.refl H) h k
end
end GR
namespace GR
open PySem PySem.Spec PyProof.Rows L2 Evl
section
variable {K : PySem.W.Frag} {σ : L2.St} {G H H' : Hp} {ta tb tc te tx : TE} {t u : TT} {x y z v : V} {D : Ends} {tu tw tz : TS} {g : TG}
/-- f(..) as a statement in a try's body -/
theorem a_callX1S {sp : Sp} {E : L2.St → XK} {ta : TA} {vs : List V} (e : Ex G H) (h : EvA ta σ G vs) (k : ∀ H1, Ex G H1 → sp vs H1 (fun _ H2 => D.nx σ H2) (E σ)) : tDrop (tCallS sp E ta) D σ H :=
  h H e _ fun H1 e1 => k H1 (e.trans e1)
theorem a_callXS {sp : Sp} {E : L2.St → XK} {ta : TA} {vs : List V} (e : Ex G H) (h : EvA ta σ G vs) (k : ∀ H1, Ex G H1 → sp vs H1 (fun _ H2 => tz D σ H2) (E σ)) : tSeq (tDrop (tCallS sp E ta)) tz D σ H :=
  h H e _ fun H1 e1 => k H1 (e.trans e1)
end
end GR
namespace GR
open PySem PySem.Spec PyProof.Rows L2 Evl
section
variable {K : PySem.W.Frag} {σ : L2.St} {G H H' : Hp} {ta tb tc te tx : TE} {t u : TT} {x y z v : V} {D : Ends} {tu tw tz : TS} {g : TG}
theorem ep_lst {tr : TA} {R : List V → Hp → Prop} {n : Nat} (h : EvAP tr σ G R) (m : MonoR R) (hn : ∀ vs H, R vs H → vs.length = n) (hz : n ≤ 100000) : EvP (tLst tr) σ G (fun w H => ∃ p vs, w = .ref p ∧ H p = some (.lst vs) ∧ R vs H) := fun H1 e Q q =>
  h H1 e _ fun vs H2 e2 hR => ⟨sz_of (by rw [hn vs H2 hR]; exact hz), fun p hp => q _ _ (e2.trans (Ex.new hp)) ⟨p, vs, rfl, upd_same, m _ _ _ (Ex.new hp) hR⟩⟩
theorem ints_ne {ns : List Int} {a : Addr} {r : List V} : HO.lst (ns.map V.int) ≠ HO.lst (V.ref a :: r) := fun h => by
  injection h with h
  cases ns with
  | nil => cases h
  | cons n s =>
    rw [List.map_cons] at h
    injection h with h1 h2
    cases h1
end
end GR
namespace GR
open PySem PySem.Spec PyProof.Rows L2 Evl
section
variable {K : PySem.W.Frag} {σ : L2.St} {G H H' : Hp} {ta tb tc te tx : TE} {t u : TT} {x y z v : V} {D : Ends} {tu tw tz : TS} {g : TG}
/-- a new object of which P holds -/
def EvF (te : TE) (σ : L2.St) (G : Hp) (P : Addr → Hp → Prop) : Prop := ∀ H1, Ex G H1 → ∀ Q : VK, (∀ p H2, H1 p = none → Ex H1 H2 → P p H2 → Q (.ref p) H2) → te σ H1 Q
theorem a_setF {i : Nat} {P : Addr → Hp → Prop} (e : Ex G H) (h : EvF te σ G P) (k : ∀ p H1, G p = none → Ex G H1 → P p H1 → tz D (σ.set i (some (.ref p))) H1) : tSeq (tAsg te (gName i)) tz D σ H :=
  h H e _ fun p H1 hp e1 hP => k p H1 (fresh_back e hp) (e.trans e1) hP
theorem ef_lst {tr : TA} {R : List V → Hp → Prop} {n : Nat} (h : EvAP tr σ G R) (m : MonoR R) (hn : ∀ vs H, R vs H → vs.length = n) (hz : n ≤ 100000) : EvF (tLst tr) σ G (fun p H => ∃ vs, H p = some (.lst vs) ∧ R vs H) := fun H1 e Q q =>
  h H1 e _ fun vs H2 e2 hR => ⟨sz_of (by rw [hn vs H2 hR]; exact hz), fun p hp => q _ _ (fresh_back e2 hp) (e2.trans (Ex.new hp)) ⟨vs, upd_same, m _ _ _ (Ex.new hp) hR⟩⟩
theorem ef_tup {tr : TA} {R : List V → Hp → Prop} {n : Nat} (h : EvAP tr σ G R) (m : MonoR R) (hn : ∀ vs H, R vs H → vs.length = n) (hz : n ≤ 100000) : EvF (tTup tr) σ G (fun p H => ∃ vs, H p = some (.tup vs) ∧ R vs H) := fun H1 e Q q =>
  h H1 e _ fun vs H2 e2 hR => ⟨sz_of (by rw [hn vs H2 hR]; exact hz), fun p hp => q _ _ (fresh_back e2 hp) (e2.trans (Ex.new hp)) ⟨vs, upd_same, m _ _ _ (Ex.new hp) hR⟩⟩
theorem ne_new {p q : Addr} {o : HO} (h : G q = some o) (hp : G p = none) : q ≠ p := ne_of_none h hp
/-- two new lists compared -/
theorem ev_opNL {r : R2} {xs : List V} (ha : Ev ta σ G x) (hb : EvL tb σ G xs) (hr : ∀ p H1, H1 p = some (.lst xs) → Ex G H1 → RV r x (.ref p) H1 z) : Ev (tOp r ta tb) σ G z := ev_opL ha hb hr
theorem ev_opPL {r : R2} {P : V → Hp → Prop} (ha : Ev ta σ G x) (hb : EvP tb σ G P) (hr : ∀ w H1, P w H1 → Ex G H1 → RV r x w H1 z) : Ev (tOp r ta tb) σ G z := fun H1 e Q q =>
  ha H1 e _ fun H2 e2 => hb H2 (e.trans e2) _ fun w H3 e3 hP => hr w H3 hP ((e.trans e2).trans e3) H3 (Ex.refl H3) Q fun H4 e4 => q H4 ((e2.trans e3).trans e4)
end
end GR
namespace GR
open PySem PySem.Spec PyProof.Rows L2 Evl
section
variable {K : PySem.W.Frag} {σ : L2.St} {G H H' : Hp} {ta tb tc te tx : TE} {t u : TT} {x y z v : V} {D : Ends} {tu tw tz : TS} {g : TG}
/-- xs[i] = e, i of any sign, e a value of which P holds -/
theorem a_setItP {P : V → Hp → Prop} {l : Addr} {xs : List V} {i : Int} {k : Nat} (e : Ex G H) (h : EvP te σ G P) (ho : Ev ta σ G (.ref l)) (hl : G l = some (.lst xs)) (hi : Ev tb σ G (.int i)) (hk : ixN xs.length i = some k) (q : ∀ v H1, Ex G H1 → P v H1 → D.nx σ (upd H1 l (.lst (xs.set k v)))) (mP : MonoP P) :
    tAsg te (gSub ta tb rSetL) D σ H := h H e _ fun v H1 e1 hP => ho H1 (e.trans e1) _ fun H2 e2 => hi H2 ((e.trans e1).trans e2) _ fun H3 e3 =>
  ⟨l, xs, i, k, rfl, rfl, (((e.trans e1).trans e2).trans e3) l _ hl, hk, q v H3 (((e.trans e1).trans e2).trans e3) (mP _ _ _ (e2.trans e3) hP)⟩
end
end GR
namespace GR
open PySem PySem.Spec PyProof.Rows L2 Evl
/-! ### zip of a tuple and a list, enumerate of a tuple: over the general walks -/
def ItzM (K : PySem.W.Frag) (a b : Addr) : It :=
  ⟨fun i H => ∃ xs ys x y, SqT K H a xs ∧ SqL K H b ys ∧ xs[i]? = some x ∧ ys[i]? = some y,
   fun i H v H' => ∃ N x y, v = .ref N ∧ H N = none ∧ H' = upd H N (.tup [x, y]) ∧ (∀ l, SqT K H a l → l[i]? = some x) ∧ (∀ l, SqL K H b l → l[i]? = some y),
   fun i H => ∃ xs ys, SqT K H a xs ∧ SqL K H b ys ∧ i = min xs.length ys.length⟩
theorem mem5 {c p q r s t : Addr} (h : c ∈ [p, q, r, s, t]) : c = p ∨ c = q ∨ c = r ∨ c = s ∨ c = t := by simpa using h
theorem turn_mix {P : Program} {w : World} {K : PySem.W.Frag} {elts : List Expr} {kk : Nat} {tpos : Pos} {a b z TI TO i1 i2 : Addr} (S : ZipSep2 z TI TO i1 i2 [i1, a] [i2, b]) (na : a ≠ i1) (nb : b ≠ i2) :
    Turn P w K (.Tuple elts kk tpos) (ItzM K a b) [z, TI, TO, i1, i2] z (fun i h => IsZip h z TI TO .none ∧ IsTupOf2 h TI (.ref i1) (.ref i2) ∧ (∃ u v, IsTupOf2 h TO u v) ∧ h.IsTupleIter i1 a i ∧ h.IsListIter i2 b i) := by
  have live : ∀ (i : Nat) (h : Heap), (IsZip h z TI TO .none ∧ IsTupOf2 h TI (.ref i1) (.ref i2) ∧ (∃ u v, IsTupOf2 h TO u v) ∧ h.IsTupleIter i1 a i ∧ h.IsListIter i2 b i) → ∀ c ∈ [z, TI, TO, i1, i2], ∃ o, h.get? c = some o ∧ ∀ v, o.data ≠ .cell v := by
    rintro i h ⟨hz, ht, ⟨u, v, ho⟩, ⟨o1, f1, _, g1⟩, ⟨o2, f2, _, g2⟩⟩ c hc
    rcases mem5 hc with e | e | e | e | e <;> subst e
    · exact ⟨_, hz, fun _ e => nomatch e⟩
    · exact ⟨_, ht, fun _ e => nomatch e⟩
    · exact ⟨_, ho, fun _ e => nomatch e⟩
    · exact ⟨o1, f1, fun _ e => by rw [g1] at e; cases e⟩
    · exact ⟨o2, f2, fun _ e => by rw [g2] at e; cases e⟩
  have wrIn : ∀ c, c ∈ [z, TO, i1, i2] → c ∈ [z, TI, TO, i1, i2] := fun c hc => by
    have : c = z ∨ c = TO ∨ c = i1 ∨ c = i2 := by simpa using hc
    rcases this with e | e | e | e <;> subst e <;> simp
  refine ⟨by simp, live, fun i h h' st k => ?_, ?_, ?_, fun A i s Q E st h => wpAny_pyIter_zip st.1 h⟩
  · obtain ⟨hz, ht, ⟨u, v, ho⟩, f1, f2⟩ := st
    exact ⟨k z (by simp) _ hz, k TI (by simp) _ ht, ⟨u, v, k TO (by simp) _ ho⟩, f1.at fun o e => k i1 (by simp) o e, f2.at fun o e => k i2 (by simp) o e⟩
  · intro X hP hw hK hc i pins s σ H E I hf st hg
    subst hP
    subst hw
    subst hK
    obtain ⟨xs, ys, x, y, q1, q2, hx, hy⟩ := hg
    obtain ⟨us, r1, p1, _⟩ := I.tuple q1
    obtain ⟨vs, r2, p2, _⟩ := I.list q2
    obtain ⟨u, hu, ru⟩ := r1.get hx
    obtain ⟨v, hv, rv⟩ := r2.get hy
    have hh : X.A.in1.handled = none := I.ok.hd hc
    have W := WalksT.zipD2 (prog := X.prog) (w := X.w) (A := X.A) S (Draws.tuple (A := X.A.in1) hh i1 a na us.toArray) (Draws.list (A := X.A.in1) hh i2 b nb vs.toArray)
    have lu := (List.getElem?_eq_some_iff.mp hu).1
    have lv := (List.getElem?_eq_some_iff.mp hv).1
    have lv5 := live i s.heap st
    obtain ⟨c1, c2, c3, c4, c5⟩ := st
    refine W.item i s _ E (by simp; omega) ⟨c1, c2, c3, ⟨c4, p1⟩, ⟨c5, p2.isList⟩⟩ fun N vals h1 tk hP hN hT mid k1 => ?_
    refine ⟨_, rfl, W.go elts kk tpos i N { s with heap := h1, toks := tk } _ E mid fun h2 st2 k2 => ?_⟩
    obtain ⟨x1, x2, e1, e2, rfl⟩ := hP
    obtain rfl : u = x1 := by
      have := e1
      simp only [List.getElem?_toArray] at this
      exact Option.some.inj (hu.symm.trans this)
    obtain rfl : v = x2 := by
      have := e2
      simp only [List.getElem?_toArray] at this
      exact Option.some.inj (hv.symm.trans this)
    have hT2 : h2.IsTuple N #[u, v] := hT.at fun o e => k2 N o (W.apart i N h1 mid) e
    have new : ObjOk X.prog X.w (upd H N (.tup [x, y])) h2 N (.tup [x, y]) := ⟨sz_of (Nat.le_of_ble_eq_true rfl), [u, v], .cons ru (.cons rv .nil), hT2⟩
    have I1 : Inv X pins σ (upd H N (.tup [x, y])) { s with heap := h2, toks := tk } :=
      I.turnedNew (t' := tk) (ch := [z, TI, TO, i1, i2]) (fun c o hc e => k2 c o (fun m => hc (wrIn c m)) (k1 c o (fun m => hc (wrIn c m)) e)) hf hN new
    obtain ⟨d1, d2, d3, d4, d5⟩ := st2
    refine ⟨.ref N, _, I1, rfl, ⟨N, x, y, rfl, I.hok.fresh hN, rfl, fun l hl => by rw [I.tuple_inj hl q1]; exact hx, fun l hl => by rw [I.list_inj hl q2]; exact hy⟩, ⟨d1, d2, d3, d4.1, d5.1⟩, fun c hc => ?_⟩
    obtain ⟨o, ho, _⟩ := lv5 c hc
    rw [upd_ne (Nat.ne_of_lt (Nat.lt_of_lt_of_le (Heap.lt_size ho) hN))]
    exact (hf c hc).1
  · intro X hP hw hK hc i pins s σ H E I hf st hg
    subst hP
    subst hw
    subst hK
    obtain ⟨xs, ys, q1, q2, rfl⟩ := hg
    obtain ⟨us, r1, p1, _⟩ := I.tuple q1
    obtain ⟨vs, r2, p2, _⟩ := I.list q2
    have hh : X.A.in1.handled = none := I.ok.hd hc
    have W := WalksT.zipD2 (prog := X.prog) (w := X.w) (A := X.A) S (Draws.tuple (A := X.A.in1) hh i1 a na us.toArray) (Draws.list (A := X.A.in1) hh i2 b nb vs.toArray)
    have en : min us.toArray.size vs.toArray.size = min xs.length ys.length := by rw [List.size_toArray, List.size_toArray, r1.length, r2.length]
    obtain ⟨c1, c2, c3, c4, c5⟩ := st
    refine W.done s _ E (by rw [en]; exact ⟨c1, c2, c3, ⟨c4, p1⟩, ⟨c5, p2.isList⟩⟩) fun h1 tk k1 => ⟨rfl, I.turnedL (t' := tk) (ch := [z, TI, TO, i1, i2]) (fun c o hc e => k1 c o (fun m => hc (wrIn c m)) e) hf⟩
def iZipM (K : PySem.W.Frag) (ta : TA) : TI := fun σ H R => ta σ H fun vs H1 => ∃ a b xs ys, vs = [.ref a, .ref b] ∧ SqT K H1 a xs ∧ SqL K H1 b ys ∧ R (ItzM K a b) H1
theorem pi_zipM {X : Cx} {e e2 : Expr} {ta : TA} {p pos tpos : Pos} {elts : List Expr} {kk : Nat} (hg : Gl X "zip") (hm : X.mg "zip" = none) (ha : PA X [e, e2] ta)
    (hs : starEach [e, e2] X.env = (false, eval e X.env) :: starEach [e2] X.env := by rfl) (hpl : (backTo pos (starEach [e2] X.env)).any (·.1) = false := by rfl) : PI X (.Tuple elts kk tpos) (.Call (.Name "zip" p) [e, e2] [] pos) (iZipM X.K ta) := by
  refine ⟨fun pins s σ H R I h => Call_ (ld_blt I hg hm PyProof.Rows.boot_zip (PyProof.Rows.callWith_type1 (thn (ha.run pos pins s σ H _ I h) fun us s1 ⟨vs, H1, I1, r1, a, b, xs, ys, ex, t1, t2, q⟩ => ?_) hs hpl))⟩
  subst ex
  obtain ⟨ua, ub, rfl, ra, rb⟩ : ∃ ua ub, us = [ua, ub] ∧ RelV (.ref a) ua ∧ RelV (.ref b) ub := by
    cases r1 with
    | cons ra rr => cases rr with
      | cons rb rr =>
        cases rr
        exact ⟨_, _, rfl, ra, rb⟩
  cases ra
  cases rb
  obtain ⟨as, _, p1, _⟩ := I1.tuple t1
  obtain ⟨bs, _, p2, _⟩ := I1.list t2
  have la : a < s1.heap.objs.size := by
    obtain ⟨o, ho, _⟩ := id p1
    exact Heap.lt_size ho
  have lowB : b < s1.heap.objs.size := p2.lt
  refine zip_begins2 (begins_tuple a as.toArray) (begins_list b bs.toArray) p1 p2.isList fun h1 hz ht ho g1 g2 _ hk => wpAny_pyIter_zip hz ?_
  have I2 : Inv X pins σ H1 { s1 with heap := h1 } := I1.kept (t' := s1.toks) hk
  refine ⟨s1.heap.objs.size + 4, [s1.heap.objs.size + 4, s1.heap.objs.size + 2, s1.heap.objs.size + 3, s1.heap.objs.size, s1.heap.objs.size + 1], _, _, H1, rfl, I2,
    turn_mix (zip_sep2 (N := s1.heap.objs.size) (fp1 := [a]) (fp2 := [b]) (fun c hc => by rw [List.mem_singleton.mp hc]; exact la) fun c hc => by rw [List.mem_singleton.mp hc]; exact lowB) (Nat.ne_of_lt la) (Nat.ne_of_lt (Nat.lt_succ_of_lt lowB)),
    ⟨hz, ht, ⟨_, _, ho⟩, ⟨_, g1, rfl, rfl⟩, ⟨_, g2, rfl, rfl⟩⟩, fun c hc => ?_, q⟩
  have young : s1.heap.objs.size ≤ c := by
    rcases mem5 hc with e | e | e | e | e <;> subst e <;> first | exact Nat.le_refl _ | exact Nat.le_add_right _ _
  exact I1.fpOk young (I1.hok.fresh young)
section
variable {K : PySem.W.Frag} {σ : L2.St} {G H H' : Hp} {ta tb tc te tx : TE} {t u : TT} {x y z v : V} {D : Ends} {tu tw tz : TS} {g : TG}
/-- for p, q in zip(t, xs), a tuple and a list of one length -/
theorem s_forZM {ts : TA} {a b : Addr} {xs ys : List V} (h : EvA ts σ G [.ref a, .ref b]) (e : Ex G H) (hx : SqT K G a xs) (hy : SqL K G b ys) (hl : xs.length = ys.length) (Pv : Nat → L2.St → Hp → Prop) (h0 : ∀ H1, Ex G H1 → Pv 0 σ H1)
    (hq : ∀ i σ' H', i ≤ xs.length → Pv i σ' H' → SqT K H' a xs ∧ SqL K H' b ys)
    (hs : ∀ i x y σ' H' N, xs[i]? = some x → ys[i]? = some y → Pv i σ' H' → H' N = none → g (.ref N) σ' (upd H' N (.tup [x, y])) fun σ2 H2 => tu { D with nx := Pv (i + 1), ct := Pv (i + 1), bk := D.nx } σ2 H2) (hd : ∀ σ' H', Pv xs.length σ' H' → D.nx σ' H') : tFor (iZipM K ts) g tu D σ H :=
  h H e _ fun H1 e1 => ⟨a, b, xs, ys, rfl, ex_t (e.trans e1) hx, ex_l (e.trans e1) hy, fun i m σ' H' => m = xs.length - i ∧ i ≤ xs.length ∧ Pv i σ' H', ⟨xs.length, rfl, Nat.zero_le _, h0 H1 (e.trans e1)⟩, by
    rintro i m σ' H' ⟨rfl, hi, p⟩
    obtain ⟨s1, s2⟩ := hq i σ' H' hi p
    by_cases hlt : i < xs.length
    · have g1 : xs[i]? = some (xs[i]'hlt) := List.getElem?_eq_getElem hlt
      have g2 : ys[i]? = some (ys[i]'(by omega)) := List.getElem?_eq_getElem _
      refine .inr ⟨⟨xs, ys, _, _, s1, s2, g1, g2⟩, Pv (i + 1), fun σ2 H2 p2 => ⟨xs.length - (i + 1), by omega, rfl, hlt, p2⟩, ?_⟩
      rintro x H2 ⟨N, x', y', rfl, hN, rfl, f1, f2⟩
      exact hs i x' y' σ' H' N (f1 xs s1) (f2 ys s2) p hN
    · have : i = xs.length := by omega
      subst this
      exact .inl ⟨⟨xs, ys, s1, s2, by omega⟩, hd σ' H' p⟩⟩
theorem a_forZM {ts : TA} {a b : Addr} {xs ys : List V} (e : Ex G H) (h : EvA ts σ G [.ref a, .ref b]) (hx : SqT K G a xs) (hy : SqL K G b ys) (hl : xs.length = ys.length) (Pv : Nat → L2.St → Hp → Prop) (h0 : ∀ H1, Ex G H1 → Pv 0 σ H1)
    (hq : ∀ i σ' H', i ≤ xs.length → Pv i σ' H' → SqT K H' a xs ∧ SqL K H' b ys)
    (hs : ∀ i x y σ' H' N, xs[i]? = some x → ys[i]? = some y → Pv i σ' H' → H' N = none → g (.ref N) σ' (upd H' N (.tup [x, y])) fun σ2 H2 => tu { D with nx := Pv (i + 1), ct := Pv (i + 1), bk := tz D } σ2 H2) (hd : ∀ σ' H', Pv xs.length σ' H' → tz D σ' H') : tSeq (tFor (iZipM K ts) g tu) tz D σ H :=
  s_forZM (D := { D with nx := tz D }) h e hx hy hl Pv h0 hq hs hd
end
end GR
namespace GR
open PySem PySem.Spec PyProof.Rows L2 Evl
/-! ### a text of signs l, k times -/
theorem foldl_cat (l : List Nat) : ∀ (k : Nat) (acc : List Nat), List.foldl (fun p q => p ++ q) acc.toArray (List.replicate k l.toArray) = (acc ++ (List.replicate k l).flatten).toArray
  | 0, acc => by simp
  | k + 1, acc => by
    have e : acc.toArray ++ l.toArray = (acc ++ l).toArray := by simp
    rw [List.replicate_succ, List.foldl_cons, e, foldl_cat l k (acc ++ l), List.replicate_succ, List.flatten_cons, List.append_assoc]
def rRepS : R2 := fun x y H Q => ∃ (l : List Nat) (k : Nat), x = .str ⟨l.toArray⟩ ∧ y = .int (k : Int) ∧ l.length * k ≤ 100000 ∧ k ≤ 100000 ∧ Q (.str ⟨(List.replicate k l).flatten.toArray⟩) H
section
variable {X : Cx}
theorem op_repS : OpR X (binaryOp .Mult) rRepS := by
  intro pins s σ H x y v u Q I rx ry h
  obtain ⟨l, k, rfl, rfl, hz, hk, q⟩ := h
  obtain ⟨t, rfl⟩ := rx
  obtain ⟨t2, rfl⟩ := ry
  have hlen : (⟨l.toArray⟩ : Str).length = l.length := List.size_toArray
  refine PySem.P.mul_str (by
    have a1 : ¬ (k : Int) < -(2 ^ 63 : Int) := by omega
    have a2 : ¬ (k : Int) ≥ 2 ^ 63 := by omega
    rw [decide_eq_false a1, decide_eq_false a2]
    rfl) (fun h1 _ => ?_) (fun h1 _ => ?_) ?_
  · rw [hlen]
    have h3 : (l.length : Int) * (k : Int) ≤ 100000 := by
      rw [← Int.natCast_mul]
      omega
    intro hgt
    have hk0 : (0 : Int) < (k : Int) := by omega
    have h2 := Int.lt_mul_of_ediv_lt hk0 hgt
    omega
  · rw [hlen, Int.toNat_natCast]
    show decide (l.length * k > sizeLine) = false
    have := sz_of hz
    exact decide_eq_false (by omega)
  · by_cases h1 : (k : Int) < 1
    · have k0 : k = 0 := by omega
      subst k0
      rw [if_pos h1]
      exact ⟨Nat.zero_le _, .str _, H, I.tok _, ⟨_, rfl⟩, q⟩
    · rw [if_neg h1]
      by_cases h2 : ((k : Int) == 1 || (⟨l.toArray⟩ : Str).length == 0) = true
      · rw [if_pos h2]
        have e : (List.replicate k l).flatten = l := by
          rw [hlen] at h2
          rcases Bool.or_eq_true _ _ ▸ h2 with z | z
          · have k1 : k = 1 := by
              have := eq_of_beq z
              omega
            subst k1
            rw [List.replicate_one, List.flatten_singleton]
          · have l0 : l = [] := List.eq_nil_of_length_eq_zero (eq_of_beq z)
            subst l0
            simp
        rw [e] at q
        exact ⟨.str ⟨l.toArray⟩, H, I, ⟨_, rfl⟩, q⟩
      · rw [if_neg h2]
        have e : List.foldl (fun p q => p ++ q) #[] (List.replicate (k : Int).toNat l.toArray) = (List.replicate k l).flatten.toArray := by
          rw [Int.toNat_natCast]
          exact foldl_cat l k []
        rw [show (⟨l.toArray⟩ : Str).cps = l.toArray from rfl, e]
        refine ⟨?_, .str _, H, I.tok _, ⟨_, rfl⟩, q⟩
        show (List.replicate k l).flatten.toArray.size ≤ sizeLine
        rw [List.size_toArray, List.length_flatten, List.map_replicate, List.sum_replicate_nat, Nat.mul_comm]
        exact sz_of hz
end
end GR
namespace GR
open PySem PySem.Spec PyProof.Rows L2 Evl
/-! ### name = {k: v for ..} on one line -/
section
variable {X : Cx}
theorem swD {kx vx : Expr} {gs : List Comprehension} {scope : Scope} {pos py : Pos} {y : Str} {l : Nat} {env : Env} (h1 : env.scope.kind = .function) (h2 : env.scope.names.lookup y = some .local) (h3 : (py.line == pos.line) = true)
    (h4 : (scope.names.any fun (n, k) => n == y && (k == .local || k == .cell)) = false) : swapsWith (.DictComp kx vx gs scope pos) (some (.Name y py)) l env = pure true := by
  have e1 : env.kindOf y = some .local := h2
  have e2 : env.blockKind = .function := by
    unfold Env.blockKind
    rw [h1]
    rfl
  unfold swapsWith
  simp only [e1, e2, h3, h4, Expr.pos]
  rfl
theorem ps_setDc {i : Nat} {y : Str} {py : Pos} {kx vx tg iter : Expr} {ifs : List Expr} {scope : Scope} {own : List (Str × Nat)} {pos sp : Pos} {wi : TI} {g : TG} {tt : TT} {tk tv : TE} (hc : X.calm = true) (hN : X.N.Nodup) (hy : X.N[i]? = some y) (hyl : X.env.scope.names.lookup y = some .local)
    (hsw : swapsWith (.DictComp kx vx [⟨tg, iter, ifs, 0⟩] scope pos) (some (.Name y py)) sp.line X.env = pure true) (hi : PI X tg iter wi) (ok : BlkOk X.N X.env.scope scope own)
    (hg : ∀ (s : Shared) (H : Hp) (C : Addr) (cl : List (Str × Addr)) (fp : List Addr), PG (X.blk s H scope (compEnvC scope cl C X.env) fp) tg g)
    (ht : ∀ (s : Shared) (H : Hp) (C : Addr) (cl : List (Str × Addr)) (fp : List Addr), PTs (X.blk s H scope (compEnvC scope cl C X.env) fp) ifs tt)
    (hk : ∀ (s : Shared) (H : Hp) (C : Addr) (cl : List (Str × Addr)) (fp : List Addr), PE (X.blk s H scope (compEnvC scope cl C X.env) fp) kx tk)
    (he : ∀ (s : Shared) (H : Hp) (C : Addr) (cl : List (Str × Addr)) (fp : List Addr), PE (X.blk s H scope (compEnvC scope cl C X.env) fp) vx tv) (hs : ∀ x, foldedSetIterable iter X.env x = pure x := by intro _; rfl) :
    PS X (.Assign [.Name y py] (.DictComp kx vx [⟨tg, iter, ifs, 0⟩] scope pos) sp) (tAsg (tDc wi g tt tk tv (own.map (·.2))) (gName i)) := by
  refine ⟨fun pins s σ H D I h0 => ?_⟩
  have h : tDc wi g tt tk tv (own.map fun z => z.2) σ H (fun x H1 => gName i x σ H1 D.nx) := h0
  rw [exec_Assign_Name_used _ _ _ _ hsw]
  refine wpAny_bind (wpAny_standAt (wpAny_bind ?_))
  show wpAny _ X.A (do let _ ← comprehension (.DictComp kx vx [⟨tg, iter, ifs, 0⟩] scope pos) scope X.env (firstIterPos [⟨tg, iter, ifs, 0⟩] pos) newDict false (eval iter X.env) (some (assign (.Name y py) X.env))) _ _ s
  refine wpAny_bind (thn (dc_core (Qf := fun _ s' => SP X pins D .next s') hc hN I hi ok hg ht hk he hs h fun L C s1 m H1 I1 q hn fr => ?_) fun _ _ hq => wpAny_pure (wpAny_pure hq))
  show wpAny _ _ (assign (.Name y py) X.env (.ref L)) _ _ _
  refine wpAny_assign_Name (store_ok2 (v := V.ref L) I1 hN hy (.inl hyl) rfl (fun s2 I2 ⟨c, sb, hcl⟩ => ?_) (.inr hyl))
  obtain ⟨g0, g1, g2, g3, g4, g5⟩ := fr
  have apart : C ≠ c := hcl.elim (fun z => z ▸ g1) (fun z e => g4 y c z e.symm)
  exact ⟨m, hn.sameBut sb apart, fun h3 sb3 => ⟨_, H1, I2.turned (t' := s2.toks) (fun b o hb e => (sb3.2 b hb).trans e) g0 g1 g3 g4 g5, q⟩⟩
end
end GR
namespace GR
open PySem PySem.Spec PyProof.Rows L2 Evl
/-! ## The pure layer: what a body does, told of data without addresses -/
inductive Dat where
  | non | bl (b : Bool) | int (i : Int) | str (x : Str)
  | list (xs : List Dat) | tup (xs : List Dat) | dict (es : List (Key × Dat))
mutual
/-- the value v stands for the data d -/
inductive Rp (K : PySem.W.Frag) (H : Hp) : V → Dat → Prop
  | non : Rp K H .non .non
  | bl (b : Bool) : Rp K H (.bl b) (.bl b)
  | int (i : Int) : Rp K H (.int i) (.int i)
  | str (x : Str) : Rp K H (.str x) (.str x)
  | list {a : Addr} {ws : List V} {ds : List Dat} : SqL K H a ws → RpL K H ws ds → Rp K H (.ref a) (.list ds)
  | tup {a : Addr} {ws : List V} {ds : List Dat} : SqT K H a ws → RpL K H ws ds → Rp K H (.ref a) (.tup ds)
  | dict {a : Addr} {kvs : List (Key × V)} {es : List (Key × Dat)} : Rd H a (.dK kvs) → RpK K H kvs es → Rp K H (.ref a) (.dict es)
inductive RpL (K : PySem.W.Frag) (H : Hp) : List V → List Dat → Prop
  | nil : RpL K H [] []
  | cons {v : V} {d : Dat} {ws : List V} {ds : List Dat} : Rp K H v d → RpL K H ws ds → RpL K H (v :: ws) (d :: ds)
inductive RpK (K : PySem.W.Frag) (H : Hp) : List (Key × V) → List (Key × Dat) → Prop
  | nil : RpK K H [] []
  | cons {k : Key} {v : V} {d : Dat} {ws : List (Key × V)} {ds : List (Key × Dat)} : Rp K H v d → RpK K H ws ds → RpK K H ((k, v) :: ws) ((k, d) :: ds)
end
section
variable {K : PySem.W.Frag} {G H H' : Hp}
theorem Rp.mono (e : Ex G H) {v : V} {d : Dat} (h : Rp K G v d) : Rp K H v d := by
  refine Rp.rec (motive_1 := fun v d _ => Rp K H v d) (motive_2 := fun ws ds _ => RpL K H ws ds) (motive_3 := fun ws ds _ => RpK K H ws ds) .non .bl .int .str (fun h _ ih => .list (ex_l e h) ih) (fun h _ ih => .tup (ex_t e h) ih) (fun h _ ih => .dict (ex_rd e h) ih) .nil (fun _ _ a b => .cons a b) .nil (fun _ _ a b => .cons a b) h
theorem RpL.mono (e : Ex G H) : ∀ {ws : List V} {ds : List Dat}, RpL K G ws ds → RpL K H ws ds
  | _, _, .nil => .nil
  | _, _, .cons h r => .cons (h.mono e) (RpL.mono e r)
theorem RpK.mono (e : Ex G H) : ∀ {ws : List (Key × V)} {ds : List (Key × Dat)}, RpK K G ws ds → RpK K H ws ds
  | _, _, .nil => .nil
  | _, _, .cons h r => .cons (h.mono e) (RpK.mono e r)
theorem RpL.len : ∀ {ws : List V} {ds : List Dat}, RpL K H ws ds → ws.length = ds.length
  | _, _, .nil => rfl
  | _, _, .cons _ r => congrArg Nat.succ r.len
theorem RpK.len : ∀ {ws : List (Key × V)} {ds : List (Key × Dat)}, RpK K H ws ds → ws.length = ds.length
  | _, _, .nil => rfl
  | _, _, .cons _ r => congrArg Nat.succ r.len
theorem RpL.get : ∀ {ws : List V} {ds : List Dat} {i : Nat} {w : V}, RpL K H ws ds → ws[i]? = some w → ∃ d, ds[i]? = some d ∧ Rp K H w d
  | _, _, 0, _, .cons h r, e => by
    obtain rfl := Option.some.inj e
    exact ⟨_, rfl, h⟩
  | _, _, i + 1, _, .cons h r, e => by
    obtain ⟨d, a, b⟩ := RpL.get (i := i) r e
    exact ⟨d, a, b⟩
theorem RpL.get' : ∀ {ws : List V} {ds : List Dat} {i : Nat} {d : Dat}, RpL K H ws ds → ds[i]? = some d → ∃ w, ws[i]? = some w ∧ Rp K H w d
  | _, _, 0, _, .cons h r, e => by
    obtain rfl := Option.some.inj e
    exact ⟨_, rfl, h⟩
  | _, _, i + 1, _, .cons h r, e => by
    obtain ⟨d, a, b⟩ := RpL.get' (i := i) r e
    exact ⟨d, a, b⟩
theorem RpL.append : ∀ {ws us : List V} {ds es : List Dat}, RpL K H ws ds → RpL K H us es → RpL K H (ws ++ us) (ds ++ es)
  | _, _, _, _, .nil, s => s
  | _, _, _, _, .cons h r, s => .cons h (RpL.append r s)
theorem RpL.take : ∀ {ws : List V} {ds : List Dat} (n : Nat), RpL K H ws ds → RpL K H (ws.take n) (ds.take n)
  | _, _, 0, _ => .nil
  | _, _, _ + 1, .nil => .nil
  | _, _, n + 1, .cons h r => .cons h (RpL.take n r)
theorem RpL.drop : ∀ {ws : List V} {ds : List Dat} (n : Nat), RpL K H ws ds → RpL K H (ws.drop n) (ds.drop n)
  | _, _, 0, r => r
  | _, _, _ + 1, .nil => .nil
  | _, _, n + 1, .cons h r => RpL.drop n r
theorem RpL.set {v : V} {d : Dat} (hv : Rp K H v d) : ∀ {ws : List V} {ds : List Dat} (n : Nat), RpL K H ws ds → RpL K H (ws.set n v) (ds.set n d)
  | _, _, _, .nil => .nil
  | _, _, 0, .cons h r => .cons hv r
  | _, _, n + 1, .cons h r => .cons h (RpL.set hv n r)
theorem RpL.erase : ∀ {ws : List V} {ds : List Dat} (n : Nat), RpL K H ws ds → RpL K H (ws.eraseIdx n) (ds.eraseIdx n)
  | _, _, _, .nil => .nil
  | _, _, 0, .cons h r => r
  | _, _, n + 1, .cons h r => .cons h (RpL.erase n r)
theorem RpL.rev : ∀ {ws : List V} {ds : List Dat}, RpL K H ws ds → RpL K H ws.reverse ds.reverse
  | _, _, .nil => .nil
  | _, _, .cons h r => by
    rw [List.reverse_cons, List.reverse_cons]
    exact r.rev.append (.cons h .nil)
theorem RpL.dropLast : ∀ {ws : List V} {ds : List Dat}, RpL K H ws ds → RpL K H ws.dropLast ds.dropLast := fun {ws ds} r => by
  rw [List.dropLast_eq_take, List.dropLast_eq_take, r.len]
  exact r.take _
theorem RpL.flat {α : Type} {f : α → V} {g : α → Dat} (hf : ∀ x, Rp K H (f x) (g x)) : ∀ xs : List α, RpL K H (xs.map f) (xs.map g)
  | [] => .nil
  | x :: r => .cons (hf x) (RpL.flat hf r)
theorem RpL.ints : ∀ {ws : List V} {ns : List Int}, RpL K H ws (ns.map Dat.int) → ws = ns.map V.int
  | [], [], _ => rfl
  | _ :: _, n :: ns, .cons h r => by
    cases h
    rw [RpL.ints r]
    rfl
theorem RpL.strs : ∀ {ws : List V} {ns : List Str}, RpL K H ws (ns.map Dat.str) → ws = ns.map V.str
  | [], [], _ => rfl
  | _ :: _, n :: ns, .cons h r => by
    cases h
    rw [RpL.strs r]
    rfl
theorem RpL.bls : ∀ {ws : List V} {ns : List Bool}, RpL K H ws (ns.map Dat.bl) → ws = ns.map V.bl
  | [], [], _ => rfl
  | _ :: _, n :: ns, .cons h r => by
    cases h
    rw [RpL.bls r]
    rfl
/-! dicts: the look-up and the put of any table -/
def valG {β : Type} (es : List (Key × β)) (k : Key) : Option β := (es.find? fun kv => decide (kv.1 = k)).map (·.2)
def putG {β : Type} (es : List (Key × β)) (k : Key) (v : β) : List (Key × β) :=
  if (es.any fun kv => decide (kv.1 = k)) = true then es.map (fun kv => if kv.1 = k then (kv.1, v) else kv) else es ++ [(k, v)]
theorem RpK.val {k : Key} : ∀ {ws : List (Key × V)} {ds : List (Key × Dat)}, RpK K H ws ds → (valV ws k = none ∧ valG ds k = none) ∨ ∃ v d, valV ws k = some v ∧ valG ds k = some d ∧ Rp K H v d
  | _, _, .nil => .inl ⟨rfl, rfl⟩
  | _, _, @RpK.cons _ _ k' v d ws ds h r => by
    by_cases e : k' = k
    · exact .inr ⟨v, d, by simp [valV, List.find?_cons, e], by simp [valG, List.find?_cons, e], h⟩
    · rcases RpK.val (k := k) r with ⟨a, b⟩ | ⟨v, d, a, b, c⟩
      · exact .inl ⟨by rw [← a]; simp [valV, List.find?_cons, e], by rw [← b]; simp [valG, List.find?_cons, e]⟩
      · exact .inr ⟨v, d, by rw [← a]; simp [valV, List.find?_cons, e], by rw [← b]; simp [valG, List.find?_cons, e], c⟩
theorem RpK.any {k : Key} : ∀ {ws : List (Key × V)} {ds : List (Key × Dat)}, RpK K H ws ds → (ws.any fun kv => decide (kv.1 = k)) = ds.any fun kv => decide (kv.1 = k)
  | _, _, .nil => rfl
  | _, _, .cons h r => by rw [List.any_cons, List.any_cons, RpK.any r]
theorem RpK.append : ∀ {ws us : List (Key × V)} {ds es : List (Key × Dat)}, RpK K H ws ds → RpK K H us es → RpK K H (ws ++ us) (ds ++ es)
  | _, _, _, _, .nil, s => s
  | _, _, _, _, .cons h r, s => .cons h (RpK.append r s)
theorem RpK.upd {k : Key} {v : V} {d : Dat} (hv : Rp K H v d) : ∀ {ws : List (Key × V)} {ds : List (Key × Dat)}, RpK K H ws ds → RpK K H (ws.map fun kv => if kv.1 = k then (kv.1, v) else kv) (ds.map fun kv => if kv.1 = k then (kv.1, d) else kv)
  | _, _, .nil => .nil
  | _, _, @RpK.cons _ _ k' v' d' ws ds h r => by
    rw [List.map_cons, List.map_cons]
    by_cases e : k' = k
    · rw [if_pos e, if_pos e]
      exact .cons hv (RpK.upd hv r)
    · rw [if_neg e, if_neg e]
      exact .cons h (RpK.upd hv r)
theorem RpK.put {k : Key} {v : V} {d : Dat} {ws : List (Key × V)} {ds : List (Key × Dat)} (hv : Rp K H v d) (h : RpK K H ws ds) : RpK K H (putK ws k v) (putG ds k d) := by
  unfold putK putG
  rw [h.any (k := k)]
  split
  · exact RpK.upd hv h
  · exact h.append (.cons hv .nil)
/-! ### the heap without the objects that are still built -/
def era (H : Hp) (S : List Addr) : Hp := fun a => if a ∈ S then none else H a
theorem era_in {S : List Addr} {a : Addr} (h : a ∈ S) : era H S a = none := if_pos h
theorem era_out {S : List Addr} {a : Addr} (h : a ∉ S) : era H S a = H a := if_neg h
theorem era_to (H : Hp) (S : List Addr) : Ex (era H S) H := fun a o h => by
  unfold era at h
  split at h
  · cases h
  · exact h
theorem era_ex {S : List Addr} (e : Ex H H') : Ex (era H S) (era H' S) := fun a o h => by
  unfold era at h ⊢
  split
  · rename_i q
    rw [if_pos q] at h
    cases h
  · rename_i q
    rw [if_neg q] at h
    exact e a o h
theorem era_le {S S' : List Addr} (h : ∀ a ∈ S', a ∈ S ∨ H a = none) : Ex (era H S) (era H S') := fun a o q => by
  have q2 := era_to H S a o q
  have q3 : a ∉ S := fun z => by rw [era_in z] at q; cases q
  have q4 : a ∉ S' := fun z => (h a z).elim q3 fun w => by rw [w] at q2; cases q2
  rw [era_out q4]
  exact q2
theorem era_upd {S : List Addr} {p : Addr} {o : HO} (h : p ∈ S) : era (upd H p o) S = era H S := by
  funext a
  unfold era upd
  by_cases q : a ∈ S
  · rw [if_pos q, if_pos q]
  · rw [if_neg q, if_neg q, if_neg fun z => q (by rw [z]; exact h)]
theorem era_new {S : List Addr} {p : Addr} {o : HO} (h : H p = none) : Ex (era H S) (era (upd H p o) (p :: S)) := by
  rw [era_upd List.mem_cons_self]
  exact era_le fun a ha => (List.mem_cons.mp ha).elim (fun e => .inr (e ▸ h)) .inl
/-! ### cells of the environment -/
inductive Cel where
  | dat (d : Dat) | own (d : Dat)
abbrev PEnv := List (Option Cel)
/-- a list or a dict at p that is still built; what is in it does not reach what is in S -/
def OwnAt (K : PySem.W.Frag) (H : Hp) (S : List Addr) (p : Addr) (d : Dat) : Prop := match d with
  | .list ds => ∃ ws, H p = some (.lst ws) ∧ RpL K (era H S) ws ds
  | .dict es => ∃ kvs, H p = some (.dK kvs) ∧ RpK K (era H S) kvs es
  | _ => False
def CelAt (K : PySem.W.Frag) (H0 H : Hp) (S : List Addr) (x : Option V) (c : Option Cel) : Prop := match c with
  | some (.dat d) => ∃ v, x = some v ∧ Rp K (era H S) v d
  | some (.own d) => ∃ p, x = some (.ref p) ∧ p ∈ S ∧ H0 p = none ∧ OwnAt K H S p d
  | none => True
theorem OwnAt.mono {S S' : List Addr} {p : Addr} {d : Dat} (e : Ex H H') (es : Ex (era H S) (era H' S')) (h : OwnAt K H S p d) : OwnAt K H' S' p d := by
  unfold OwnAt at h ⊢
  split at h
  · obtain ⟨ws, a, b⟩ := h
    exact ⟨ws, e _ _ a, b.mono es⟩
  · obtain ⟨ws, a, b⟩ := h
    exact ⟨ws, e _ _ a, b.mono es⟩
  · exact h
theorem CelAt.mono {H0 : Hp} {S : List Addr} {x : Option V} {c : Option Cel} (e : Ex H H') (h : CelAt K H0 H S x c) : CelAt K H0 H' S x c := by
  unfold CelAt at h ⊢
  split at h
  · obtain ⟨v, a, b⟩ := h
    exact ⟨v, a, b.mono (era_ex e)⟩
  · obtain ⟨p, a, b, c, d⟩ := h
    exact ⟨p, a, b, c, d.mono e (era_ex e)⟩
  · trivial
theorem OwnAt.rp {S S' : List Addr} {p : Addr} {d : Dat} (h : OwnAt K H S p d) (hp : p ∉ S') (es : Ex (era H S) (era H S')) : Rp K (era H S') (.ref p) d := by
  unfold OwnAt at h
  split at h
  · obtain ⟨ws, a, b⟩ := h
    exact .list (sq_of (by rw [era_out hp]; exact a)) (b.mono es)
  · obtain ⟨ws, a, b⟩ := h
    exact .dict (.inl (by rw [era_out hp]; exact a)) (b.mono es)
  · exact h.elim
theorem era_nil : era H [] = H := by
  funext a
  unfold era
  rw [if_neg (by simp)]
structure Holds (K : PySem.W.Frag) (H0 : Hp) (S0 : List Addr) (gs : List (V × Dat)) (S : List Addr) (σ : List (Option V)) (H : Hp) (env : List (Option Cel)) : Prop where
  ex : Ex H0 H
  s0 : ∀ q ∈ S0, H0 q ≠ none
  sub : ∀ q ∈ S0, q ∈ S
  old : ∀ q ∈ S, q ∈ S0 ∨ H0 q = none
  al : ∀ q ∈ S, H q ≠ none
  len : σ.length = env.length
  at_ : ∀ (i : Nat) (c : Option Cel), env[i]? = some c → ∃ x, σ[i]? = some x ∧ CelAt K H0 H S x c
  inj : ∀ (i j : Nat) (d e : Dat) (p : Addr), env[i]? = some (some (.own d)) → env[j]? = some (some (.own e)) → σ[i]? = some (some (.ref p)) → σ[j]? = some (some (.ref p)) → i = j
  gh : ∀ g ∈ gs, Rp K (era H S) g.1 g.2
variable {H0 : Hp} {S0 S : List Addr} {gs : List (V × Dat)} {σ : List (Option V)} {env : List (Option Cel)}
theorem Holds.mono (e : Ex H H') (h : Holds K H0 S0 gs S σ H env) : Holds K H0 S0 gs S σ H' env where
  ex := h.ex.trans e
  s0 := h.s0
  sub := h.sub
  old := h.old
  al := fun q hq z => h.al q hq (fresh_back e z)
  len := h.len
  at_ := fun i c hc => by
    obtain ⟨x, a, b⟩ := h.at_ i c hc
    exact ⟨x, a, b.mono e⟩
  inj := h.inj
  gh := fun g hg => (h.gh g hg).mono (era_ex e)
theorem Holds.new (h : Holds K H0 S0 gs S σ H env) {p : Addr} (hp : H p = none) : p ∉ S := fun z => h.al p z hp
/-- modes: the whole heap; what is in it (not itself) without what is built; without what is built -/
inductive Md where | w | c | s
def RpM (m : Md) (K : PySem.W.Frag) (H : Hp) (S : List Addr) (v : V) (d : Dat) : Prop := match m with
  | .w => Rp K H v d
  | .s => Rp K (era H S) v d
  | .c => Rp K (era H S) v d ∨ ∃ p, v = .ref p ∧ OwnAt K H S p d
theorem RpM.weak {m : Md} {v : V} {d : Dat} (h : RpM m K H S v d) : Rp K H v d := by
  cases m with
  | w => exact h
  | s => exact Rp.mono (era_to H S) h
  | c =>
    rcases h with h | ⟨p, rfl, h⟩
    · exact h.mono (era_to H S)
    · have := h.rp (S' := []) (by simp) (by rw [era_nil]; exact era_to H S)
      rw [era_nil] at this
      exact this
theorem RpM.mono {m : Md} {v : V} {d : Dat} (e : Ex H H') (h : RpM m K H S v d) : RpM m K H' S v d := by
  cases m with
  | w => exact Rp.mono e h
  | s => exact Rp.mono (era_ex e) h
  | c =>
    rcases h with h | ⟨p, rfl, h⟩
    · exact .inl (h.mono (era_ex e))
    · exact .inr ⟨p, rfl, h.mono e (era_ex e)⟩
/-- a container: itself to be read, what is in it without what is built -/
theorem RpM.list {m : Md} (hm : m ≠ .w) {v : V} {ds : List Dat} (h : RpM m K H S v (.list ds)) : ∃ p ws, v = .ref p ∧ SqL K H p ws ∧ RpL K (era H S) ws ds := by
  have key : Rp K (era H S) v (.list ds) → ∃ p ws, v = .ref p ∧ SqL K H p ws ∧ RpL K (era H S) ws ds := fun h => by
    cases h with
    | list a b => exact ⟨_, _, rfl, ex_l (era_to H S) a, b⟩
  cases m with
  | w => exact absurd rfl hm
  | s => exact key h
  | c =>
    rcases h with h | ⟨p, rfl, ws, a, b⟩
    · exact key h
    · exact ⟨p, ws, rfl, sq_of a, b⟩
theorem RpM.tup {m : Md} (hm : m ≠ .w) {v : V} {ds : List Dat} (h : RpM m K H S v (.tup ds)) : ∃ p ws, v = .ref p ∧ SqT K H p ws ∧ RpL K (era H S) ws ds := by
  have key : Rp K (era H S) v (.tup ds) → ∃ p ws, v = .ref p ∧ SqT K H p ws ∧ RpL K (era H S) ws ds := fun h => by
    cases h with
    | tup a b => exact ⟨_, _, rfl, ex_t (era_to H S) a, b⟩
  cases m with
  | w => exact absurd rfl hm
  | s => exact key h
  | c =>
    rcases h with h | ⟨p, rfl, h⟩
    · exact key h
    · exact h.elim
theorem RpM.dict {m : Md} (hm : m ≠ .w) {v : V} {es : List (Key × Dat)} (h : RpM m K H S v (.dict es)) : ∃ p kvs, v = .ref p ∧ Rd H p (.dK kvs) ∧ RpK K (era H S) kvs es := by
  have key : Rp K (era H S) v (.dict es) → ∃ p kvs, v = .ref p ∧ Rd H p (.dK kvs) ∧ RpK K (era H S) kvs es := fun h => by
    cases h with
    | dict a b => exact ⟨_, _, rfl, ex_rd (era_to H S) a, b⟩
  cases m with
  | w => exact absurd rfl hm
  | s => exact key h
  | c =>
    rcases h with h | ⟨p, rfl, ws, a, b⟩
    · exact key h
    · exact ⟨p, ws, rfl, .inl a, b⟩
end
end GR
namespace GR
open PySem PySem.Spec PyProof.Rows L2 Evl
/-! ## expressions: a reading te is followed by a pure one -/
abbrev ME := PEnv → (Dat → Prop) → Prop
abbrev MA := PEnv → (List Dat → Prop) → Prop
abbrev MT := PEnv → (Bool → Prop) → Prop
abbrev MO := PEnv → (Option Int → Prop) → Prop
def RpMs (m : Md) (K : PySem.W.Frag) (H : Hp) (S : List Addr) : List V → List Dat → Prop
  | [], [] => True
  | v :: ws, d :: ds => RpM m K H S v d ∧ RpMs m K H S ws ds
  | _, _ => False
def SimE (K : PySem.W.Frag) (H0 : Hp) (S0 : List Addr) (m : Md) (te : TE) (me : ME) : Prop := ∀ (gs : List (V × Dat)) (S : List Addr) (σ : List (Option V)) (H : Hp) (env : PEnv) (P : Dat → Prop), Holds K H0 S0 gs S σ H env → me env P → ∀ Q : VK, (∀ v d H', P d → Ex H H' → RpM m K H' S v d → Q v H') → te σ H Q
def SimF (K : PySem.W.Frag) (H0 : Hp) (S0 : List Addr) (te : TE) (me : ME) : Prop := ∀ (gs : List (V × Dat)) (S : List Addr) (σ : List (Option V)) (H : Hp) (env : PEnv) (P : Dat → Prop), Holds K H0 S0 gs S σ H env → me env P → ∀ Q : VK, (∀ p d H', P d → H p = none → Ex H H' → OwnAt K H' (p :: S) p d → Q (.ref p) H') → te σ H Q
def SimA (K : PySem.W.Frag) (H0 : Hp) (S0 : List Addr) (m : Md) (ta : TA) (ma : MA) : Prop := ∀ (gs : List (V × Dat)) (S : List Addr) (σ : List (Option V)) (H : Hp) (env : PEnv) (P : List Dat → Prop), Holds K H0 S0 gs S σ H env → ma env P → ∀ Q : List V → Hp → Prop, (∀ vs ds H', P ds → Ex H H' → RpMs m K H' S vs ds → Q vs H') → ta σ H Q
def SimT (K : PySem.W.Frag) (H0 : Hp) (S0 : List Addr) (tt : TT) (mt : MT) : Prop := ∀ (gs : List (V × Dat)) (S : List Addr) (σ : List (Option V)) (H : Hp) (env : PEnv) (P : Bool → Prop), Holds K H0 S0 gs S σ H env → mt env P → ∀ Q : Bool → Hp → Prop, (∀ b H', P b → Ex H H' → Q b H') → tt σ H Q
def SimO (K : PySem.W.Frag) (H0 : Hp) (S0 : List Addr) (to : TO) (mo : MO) : Prop := ∀ (gs : List (V × Dat)) (S : List Addr) (σ : List (Option V)) (H : Hp) (env : PEnv) (P : Option Int → Prop), Holds K H0 S0 gs S σ H env → mo env P → ∀ Q : Option Int → Hp → Prop, (∀ b H', P b → Ex H H' → Q b H') → to σ H Q
section
variable {K : PySem.W.Frag} {H0 G H H' : Hp} {S0 S : List Addr} {m m1 m2 : Md} {te ta tb tc tx : TE} {me ma mb mc mx : ME} {tr : TA} {mr : MA} {tt tu : TT} {mt mu : MT} {to tl th : TO} {mo ml mh : MO}
theorem RpM.of_s {v : V} {d : Dat} (h : Rp K (era H S) v d) : RpM m K H S v d := by
  cases m with
  | w => exact h.mono (era_to H S)
  | c => exact .inl h
  | s => exact h
theorem RpMs.mono (e : Ex H H') : ∀ {ws : List V} {ds : List Dat}, RpMs m K H S ws ds → RpMs m K H' S ws ds
  | [], [], _ => trivial
  | _ :: _, _ :: _, h => ⟨h.1.mono e, RpMs.mono e h.2⟩
  | [], _ :: _, h => h.elim
  | _ :: _, [], h => h.elim
theorem RpMs.weak : ∀ {ws : List V} {ds : List Dat}, RpMs m K H S ws ds → RpL K H ws ds
  | [], [], _ => .nil
  | _ :: _, _ :: _, h => .cons h.1.weak (RpMs.weak h.2)
  | [], _ :: _, h => h.elim
  | _ :: _, [], h => h.elim
theorem RpMs.strong : ∀ {ws : List V} {ds : List Dat}, RpMs .s K H S ws ds → RpL K (era H S) ws ds
  | [], [], _ => .nil
  | _ :: _, _ :: _, h => .cons h.1 (RpMs.strong h.2)
  | [], _ :: _, h => h.elim
  | _ :: _, [], h => h.elim
theorem RpL.of_flat (S : List Addr) : ∀ {ws : List V} {ds : List Dat}, RpL K (era H S) ws ds → RpMs m K H S ws ds
  | _, _, .nil => trivial
  | _, _, .cons h r => ⟨RpM.of_s h, RpL.of_flat S r⟩
/-! names -/
def mVar (i : Nat) (env : PEnv) (P : Dat → Prop) : Prop := match env[i]? with
  | some (some (.dat d)) => P d
  | _ => False
theorem mVar_e (i : Nat) (env : PEnv) (P : Dat → Prop) : mVar i env P = (match env[i]? with
  | some (some (.dat d)) => P d
  | _ => False) := rfl
def mAny (i : Nat) (env : PEnv) (P : Dat → Prop) : Prop := match env[i]? with
  | some (some (.dat d)) => P d
  | some (some (.own d)) => P d
  | _ => False
theorem mAny_e (i : Nat) (env : PEnv) (P : Dat → Prop) : mAny i env P = (match env[i]? with
  | some (some (.dat d)) => P d
  | some (some (.own d)) => P d
  | _ => False) := rfl
theorem sm_var {i : Nat} : SimE K H0 S0 m (tVar i) (mVar i) := by
  intro gs S σ H env P hH hm Q q
  unfold mVar at hm
  split at hm
  · rename_i d e
    obtain ⟨x, hx, v, rfl, r⟩ := hH.at_ i _ e
    exact ⟨v, hx, q v d H hm (Ex.refl H) (RpM.of_s r)⟩
  · exact hm.elim
theorem sm_any {i : Nat} (hm : m ≠ .s) : SimE K H0 S0 m (tVar i) (mAny i) := by
  intro gs S σ H env P hH h Q q
  unfold mAny at h
  split at h
  · rename_i d e
    obtain ⟨x, hx, v, rfl, r⟩ := hH.at_ i _ e
    exact ⟨v, hx, q v d H h (Ex.refl H) (RpM.of_s r)⟩
  · rename_i d e
    obtain ⟨x, hx, p, rfl, h1, h2, h3⟩ := hH.at_ i _ e
    refine ⟨.ref p, hx, q _ d H h (Ex.refl H) ?_⟩
    cases m with
    | w => exact (show RpM .c K H S (.ref p) d from .inr ⟨p, rfl, h3⟩).weak
    | c => exact .inr ⟨p, rfl, h3⟩
    | s => exact absurd rfl hm
  · exact h.elim
theorem sm_anyC {i : Nat} : SimE K H0 S0 .c (tVar i) (mAny i) := sm_any (by intro h; cases h)
theorem sm_anyW {i : Nat} : SimE K H0 S0 .w (tVar i) (mAny i) := sm_any (by intro h; cases h)
/-! constants -/
def mC (d : Dat) (e_ : PEnv) (P : Dat → Prop) : Prop := P d
theorem mC_e (d : Dat) (e_ : PEnv) (P : Dat → Prop) : mC d e_ P = (P d) := rfl
theorem sm_c {v : V} {d : Dat} (h : ∀ G, Rp K G v d) : SimE K H0 S0 m (tC v) (mC d) := fun gs S σ H env P _ hm Q q => q v d H hm (Ex.refl H) (RpM.of_s (h _))
theorem sm_int {i : Int} : SimE K H0 S0 m (tC (.int i)) (mC (.int i)) := sm_c fun _ => .int i
theorem sm_str {i : Str} : SimE K H0 S0 m (tC (.str i)) (mC (.str i)) := sm_c fun _ => .str i
theorem sm_bl {i : Bool} : SimE K H0 S0 m (tC (.bl i)) (mC (.bl i)) := sm_c fun _ => .bl i
theorem sm_non : SimE K H0 S0 m (tC .non) (mC .non) := sm_c fun _ => .non
/-! a flat result is told wholly -/
def Dat.flat : Dat → Bool
  | .list _ => false | .tup _ => false | .dict _ => false | _ => true
theorem Rp.flat {v : V} {d : Dat} (h : Rp K H v d) (hf : d.flat = true) : Rp K G v d := by
  cases h with
  | non => exact .non
  | bl b => exact .bl b
  | int i => exact .int i
  | str x => exact .str x
  | list _ _ => cases hf
  | tup _ _ => cases hf
  | dict _ _ => cases hf
def mFlat (me : ME) (env : PEnv) (P : Dat → Prop) : Prop := me env fun d => d.flat = true ∧ P d
theorem mFlat_e (me : ME) (env : PEnv) (P : Dat → Prop) : mFlat me env P = (me env fun d => d.flat = true ∧ P d) := rfl
theorem sm_flat (h : SimE K H0 S0 .w te me) : SimE K H0 S0 m te (mFlat me) := fun gs S σ H env P hH hm Q q => h gs S σ H env _ hH hm Q fun v d H' hd e r => q v d H' hd.2 e (RpM.of_s (Rp.flat (RpM.weak (m := .w) (S := S) r) hd.1))
/-! two-place operations whose result is flat -/
def SimR (K : PySem.W.Frag) (r : R2) (mr : Dat → Dat → (Dat → Prop) → Prop) : Prop := ∀ (H : Hp) (x y : V) (dx dy : Dat) (P : Dat → Prop), Rp K H x dx → Rp K H y dy → mr dx dy P → ∀ Q : VK, (∀ v d H', P d → Ex H H' → (∀ G, Rp K G v d) → Q v H') → r x y H Q
def mOp (mr : Dat → Dat → (Dat → Prop) → Prop) (ma mb : ME) (env : PEnv) (P : Dat → Prop) : Prop := ma env fun x => mb env fun y => mr x y P
theorem mOp_e (mr : Dat → Dat → (Dat → Prop) → Prop) (ma mb : ME) (env : PEnv) (P : Dat → Prop) : mOp mr ma mb env P = (ma env fun x => mb env fun y => mr x y P) := rfl
theorem sm_op {r : R2} {mr : Dat → Dat → (Dat → Prop) → Prop} (hr : SimR K r mr) (h1 : SimE K H0 S0 .w ta ma) (h2 : SimE K H0 S0 .w tb mb) : SimE K H0 S0 m (tOp r ta tb) (mOp mr ma mb) := fun gs S σ H env P hH hm Q q =>
  h1 gs S σ H env _ hH hm _ fun x dx H1 hx e1 r1 => h2 gs S σ H1 env _ (hH.mono e1) hx _ fun y dy H2 hy e2 r2 => hr H2 x y dx dy P (r1.weak.mono e2) r2.weak hy Q fun v d H3 hP e3 r3 => q v d H3 hP ((e1.trans e2).trans e3) (RpM.of_s (r3 _))
def mII (f : Int → Int → Int) (x : Dat) (y : Dat) (P : Dat → Prop) : Prop := match x, y with
  | .int i, .int j => P (.int (f i j))
  | _, _ => False
theorem mII_e (f : Int → Int → Int) (x : Dat) (y : Dat) (P : Dat → Prop) : mII f x y P = (match x, y with
  | .int i, .int j => P (.int (f i j))
  | _, _ => False) := rfl
def mIB (f : Int → Int → Bool) (x : Dat) (y : Dat) (P : Dat → Prop) : Prop := match x, y with
  | .int i, .int j => P (.bl (f i j))
  | _, _ => False
theorem mIB_e (f : Int → Int → Bool) (x : Dat) (y : Dat) (P : Dat → Prop) : mIB f x y P = (match x, y with
  | .int i, .int j => P (.bl (f i j))
  | _, _ => False) := rfl
def mIIC (C : Int → Int → Prop) (f : Int → Int → Int) (x : Dat) (y : Dat) (P : Dat → Prop) : Prop := match x, y with
  | .int i, .int j => C i j ∧ P (.int (f i j))
  | _, _ => False
theorem mIIC_e (C : Int → Int → Prop) (f : Int → Int → Int) (x : Dat) (y : Dat) (P : Dat → Prop) : mIIC C f x y P = (match x, y with
  | .int i, .int j => C i j ∧ P (.int (f i j))
  | _, _ => False) := rfl
theorem sr_ii {f : Int → Int → Int} : SimR K (rI0 fun i j => .int (f i j)) (mII f) := by
  intro H x y dx dy P rx ry hm Q q
  unfold mII at hm
  split at hm
  · cases rx
    cases ry
    exact ⟨_, _, rfl, rfl, q _ _ H hm (Ex.refl H) fun _ => .int _⟩
  · exact hm.elim
theorem sr_ib {f : Int → Int → Bool} : SimR K (rI0 fun i j => .bl (f i j)) (mIB f) := by
  intro H x y dx dy P rx ry hm Q q
  unfold mIB at hm
  split at hm
  · cases rx
    cases ry
    exact ⟨_, _, rfl, rfl, q _ _ H hm (Ex.refl H) fun _ => .bl _⟩
  · exact hm.elim
theorem sr_iic {C : Int → Int → Prop} {f : Int → Int → Int} : SimR K (rI C fun i j => .int (f i j)) (mIIC C f) := by
  intro H x y dx dy P rx ry hm Q q
  unfold mIIC at hm
  split at hm
  · cases rx
    cases ry
    exact ⟨_, _, rfl, rfl, hm.1, q _ _ H hm.2 (Ex.refl H) fun _ => .int _⟩
  · exact hm.elim
def mCatS (x : Dat) (y : Dat) (P : Dat → Prop) : Prop := match x, y with
  | .str i, .str j => i.length + j.length ≤ 100000 ∧ P (.str (i ++ j))
  | _, _ => False
theorem mCatS_e (x : Dat) (y : Dat) (P : Dat → Prop) : mCatS  x y P = (match x, y with
  | .str i, .str j => i.length + j.length ≤ 100000 ∧ P (.str (i ++ j))
  | _, _ => False) := rfl
theorem sr_catS : SimR K (fun x y H Q => ∃ i j, x = .str i ∧ y = .str j ∧ i.length + j.length ≤ sizeLine ∧ Q (.str (i ++ j)) H) mCatS := by
  intro H x y dx dy P rx ry hm Q q
  unfold mCatS at hm
  split at hm
  · cases rx
    cases ry
    exact ⟨_, _, rfl, rfl, sz_of hm.1, q _ _ H hm.2 (Ex.refl H) fun _ => .str _⟩
  · exact hm.elim
def mRepS (x : Dat) (y : Dat) (P : Dat → Prop) : Prop := match x, y with
  | .str s, .int k => s.length * k.toNat ≤ 100000 ∧ 0 ≤ k ∧ k ≤ 100000 ∧ P (.str ⟨(List.replicate k.toNat s.cps.toList).flatten.toArray⟩)
  | _, _ => False
theorem mRepS_e (x : Dat) (y : Dat) (P : Dat → Prop) : mRepS  x y P = (match x, y with
  | .str s, .int k => s.length * k.toNat ≤ 100000 ∧ 0 ≤ k ∧ k ≤ 100000 ∧ P (.str ⟨(List.replicate k.toNat s.cps.toList).flatten.toArray⟩)
  | _, _ => False) := rfl
theorem sr_repS : SimR K rRepS mRepS := by
  intro H x y dx dy P rx ry hm Q q
  unfold mRepS at hm
  split at hm
  · rename_i s k
    cases rx
    cases ry
    obtain ⟨h1, h2, h3, h4⟩ := hm
    refine ⟨s.cps.toList, k.toNat, by cases s; rfl, by rw [Int.toNat_of_nonneg h2], ?_, by omega, q _ _ H h4 (Ex.refl H) fun _ => .str _⟩
    exact h1
  · exact hm.elim
def mEq (x : Dat) (y : Dat) (P : Dat → Prop) : Prop := match x, y with
  | .int i, .int j => P (.bl (decide (i = j)))
  | .str i, .str j => P (.bl (decide (i = j)))
  | .bl i, .bl j => P (.bl (decide (i = j)))
  | .non, .non => P (.bl true)
  | .non, .int _ => P (.bl false)
  | .int _, .non => P (.bl false)
  | .non, .str _ => P (.bl false)
  | .str _, .non => P (.bl false)
  | _, _ => False
theorem mEq_e (x : Dat) (y : Dat) (P : Dat → Prop) : mEq  x y P = (match x, y with
  | .int i, .int j => P (.bl (decide (i = j)))
  | .str i, .str j => P (.bl (decide (i = j)))
  | .bl i, .bl j => P (.bl (decide (i = j)))
  | .non, .non => P (.bl true)
  | .non, .int _ => P (.bl false)
  | .int _, .non => P (.bl false)
  | .non, .str _ => P (.bl false)
  | .str _, .non => P (.bl false)
  | _, _ => False) := rfl
def mNe (x : Dat) (y : Dat) (P : Dat → Prop) : Prop := mEq x y fun d => match d with
  | .bl b => P (.bl !b)
  | _ => False
theorem mNe_e (x : Dat) (y : Dat) (P : Dat → Prop) : mNe  x y P = (mEq x y fun d => match d with
  | .bl b => P (.bl !b)
  | _ => False) := rfl
theorem mEq_is {x y : Dat} {P : Dat → Prop} {u v : V} (ru : Rp K H u x) (rv : Rp K H v y) (h : mEq x y P) : scal u v = true ∧ P (.bl (decide (u = v))) := by
  unfold mEq at h
  split at h
  · cases ru; cases rv
    exact ⟨rfl, by rw [dec_int]; exact h⟩
  · cases ru; cases rv
    exact ⟨rfl, by rw [dec_str]; exact h⟩
  · cases ru; cases rv
    exact ⟨rfl, by rw [dec_bl]; exact h⟩
  · cases ru; cases rv
    exact ⟨rfl, by simpa using h⟩
  · cases ru; cases rv
    exact ⟨rfl, by simpa using h⟩
  · cases ru; cases rv
    exact ⟨rfl, by simpa using h⟩
  · cases ru; cases rv
    exact ⟨rfl, by simpa using h⟩
  · cases ru; cases rv
    exact ⟨rfl, by simpa using h⟩
  · exact h.elim
theorem sr_eq : SimR K rEq mEq := fun H x y dx dy P rx ry hm Q q => by
  obtain ⟨a, b⟩ := mEq_is rx ry hm
  exact ⟨a, q _ _ H b (Ex.refl H) fun _ => .bl _⟩
theorem sr_ne : SimR K rNe mNe := fun H x y dx dy P rx ry hm Q q => by
  obtain ⟨a, b⟩ := mEq_is rx ry hm
  exact ⟨a, q _ _ H b (Ex.refl H) fun _ => .bl _⟩
def mIsN (n : Bool) (x : Dat) (y : Dat) (P : Dat → Prop) : Prop := match y with
  | .non => P (.bl (match x with | .non => n | _ => !n))
  | _ => False
theorem mIsN_e (n : Bool) (x : Dat) (y : Dat) (P : Dat → Prop) : mIsN n x y P = (match y with
  | .non => P (.bl (match x with | .non => n | _ => !n))
  | _ => False) := rfl
theorem sr_isN : SimR K rIsN (mIsN true) := fun H x y dx dy P rx ry hm Q q => by
  unfold mIsN at hm
  split at hm
  · cases ry
    refine ⟨rfl, q _ _ H hm (Ex.refl H) fun _ => ?_⟩
    cases rx <;> simp <;> exact .bl _
  · exact hm.elim
theorem sr_notN : SimR K rNotN (mIsN false) := fun H x y dx dy P rx ry hm Q q => by
  unfold mIsN at hm
  split at hm
  · cases ry
    refine ⟨rfl, q _ _ H hm (Ex.refl H) fun _ => ?_⟩
    cases rx <;> simp <;> exact .bl _
  · exact hm.elim
/-! x in (a, b, ..) of flat items -/
def eqF : Dat → Dat → Bool
  | .non, .non => true
  | .bl a, .bl b => a == b
  | .bl a, .int b => (if a then 1 else 0) == b
  | .int a, .bl b => a == (if b then 1 else 0)
  | .int a, .int b => a == b
  | .str a, .str b => a == b
  | _, _ => false
theorem Rp.flatV {v : V} {d : Dat} (h : Rp K H v d) (hf : d.flat = true) : L2.flatV v = true := by
  cases h <;> first | rfl | cases hf
theorem Rp.eqF {v w : V} {d e : Dat} (h : Rp K H v d) (h2 : Rp K H w e) (hf : d.flat = true) (hf2 : e.flat = true) : eqV v w = eqF d e := by
  cases h <;> first | (cases hf; done) | (cases h2 <;> first | rfl | (cases hf2; done))
theorem RpL.allFlat : ∀ {ws : List V} {ds : List Dat}, RpL K H ws ds → ds.all Dat.flat = true → ws.all L2.flatV = true
  | _, _, .nil, _ => rfl
  | _, _, .cons h r, hf => by
    rw [List.all_cons, Bool.and_eq_true] at hf ⊢
    exact ⟨h.flatV hf.1, r.allFlat hf.2⟩
theorem RpL.inV {x : V} {dx : Dat} (hx : Rp K H x dx) (fx : dx.flat = true) : ∀ {ws : List V} {ds : List Dat}, RpL K H ws ds → ds.all Dat.flat = true → L2.inV x ws = ds.any fun y => GR.eqF y dx
  | _, _, .nil, _ => rfl
  | _, _, .cons h r, hf => by
    rw [List.all_cons, Bool.and_eq_true] at hf
    have ih := RpL.inV hx fx r hf.2
    unfold L2.inV at ih ⊢
    rw [List.any_cons, List.any_cons, ih, h.eqF hx hf.1 fx]
def itemsD : Dat → Option (List Dat)
  | .list xs => some xs
  | .tup xs => some xs
  | _ => none
def mIn (neg : Bool) (x : Dat) (y : Dat) (P : Dat → Prop) : Prop := match itemsD y with
  | some xs => x.flat = true ∧ xs.all Dat.flat = true ∧ P (.bl (if neg = true then !(xs.any fun y => eqF y x) else xs.any fun y => eqF y x))
  | none => False
theorem mIn_e (neg : Bool) (x : Dat) (y : Dat) (P : Dat → Prop) : mIn neg x y P = (match itemsD y with
  | some xs => x.flat = true ∧ xs.all Dat.flat = true ∧ P (.bl (if neg = true then !(xs.any fun y => eqF y x) else xs.any fun y => eqF y x))
  | none => False) := rfl
theorem sr_in {neg : Bool} : SimR K (rIn K neg) (mIn neg) := fun H x y dx dy P rx ry hm Q q => by
  unfold mIn at hm
  split at hm
  · rename_i xs e
    obtain ⟨h1, h2, h3⟩ := hm
    cases ry with
    | list a b =>
      obtain rfl := Option.some.inj e
      exact ⟨_, _, rfl, .inl a, rx.flatV h1, b.allFlat h2, q _ _ H (by rw [RpL.inV rx h1 b h2]; exact h3) (Ex.refl H) fun _ => .bl _⟩
    | tup a b =>
      obtain rfl := Option.some.inj e
      exact ⟨_, _, rfl, .inr a, rx.flatV h1, b.allFlat h2, q _ _ H (by rw [RpL.inV rx h1 b h2]; exact h3) (Ex.refl H) fun _ => .bl _⟩
    | _ => cases e
  · exact hm.elim
/-! a sign in a text -/
def mInS (neg : Bool) (x : Dat) (y : Dat) (P : Dat → Prop) : Prop := match x, y with
  | .str c, .str z => ∃ k, c = ⟨#[k]⟩ ∧ P (.bl (if neg = true then !decide (k ∈ z.cps.toList) else decide (k ∈ z.cps.toList)))
  | _, _ => False
theorem mInS_e (neg : Bool) (x : Dat) (y : Dat) (P : Dat → Prop) : mInS neg x y P = (match x, y with
  | .str c, .str z => ∃ k, c = ⟨#[k]⟩ ∧ P (.bl (if neg = true then !decide (k ∈ z.cps.toList) else decide (k ∈ z.cps.toList)))
  | _, _ => False) := rfl
theorem sr_inS : SimR K (fun x y H Q => ∃ (c : Nat) (z : Str), x = .str ⟨#[c]⟩ ∧ y = .str z ∧ Q (.bl (decide (c ∈ z.cps.toList))) H) (mInS false) := fun H x y dx dy P rx ry hm Q q => by
  unfold mInS at hm
  split at hm
  · cases rx; cases ry
    obtain ⟨k, rfl, h⟩ := hm
    exact ⟨k, _, rfl, rfl, q _ _ H h (Ex.refl H) fun _ => .bl _⟩
  · exact hm.elim
theorem sr_notInS : SimR K (fun x y H Q => ∃ (c : Nat) (z : Str), x = .str ⟨#[c]⟩ ∧ y = .str z ∧ Q (.bl (!decide (c ∈ z.cps.toList))) H) (mInS true) := fun H x y dx dy P rx ry hm Q q => by
  unfold mInS at hm
  split at hm
  · cases rx; cases ry
    obtain ⟨k, rfl, h⟩ := hm
    exact ⟨k, _, rfl, rfl, q _ _ H h (Ex.refl H) fun _ => .bl _⟩
  · exact hm.elim
/-! == of data -/
mutual
def Dat.py : Dat → PyData
  | .non => .none | .bl b => .bool b | .int i => .int i | .str x => .str x
  | .list xs => .list (Dat.pys xs) | .tup xs => .tuple (Dat.pys xs) | .dict _ => .dict []
def Dat.pys : List Dat → List PyData
  | [] => []
  | d :: ds => d.py :: Dat.pys ds
end
mutual
/-- no dict, no bool in it -/
def Dat.plain : Dat → Bool
  | .bl _ => false | .dict _ => false
  | .list xs => Dat.plains xs | .tup xs => Dat.plains xs
  | .str x => x.cps.all (· < 0x110000)
  | _ => true
def Dat.plains : List Dat → Bool
  | [] => true
  | d :: ds => d.plain && Dat.plains ds
end
mutual
def Dat.dep : Dat → Nat
  | .list xs => Dat.deps xs + 1 | .tup xs => Dat.deps xs + 1
  | _ => 0
def Dat.deps : List Dat → Nat
  | [] => 0
  | d :: ds => max d.dep (Dat.deps ds)
end
mutual
theorem rp_dp : ∀ (d : Dat) (v : V), d.plain = true → Rp K H v d → Dp K H v d.py
  | .non, _, _, .non => .non
  | .int _, _, _, .int i => .int i
  | .str _, _, _, .str x => .str x
  | .bl _, _, h, _ => by cases h
  | .dict _, _, h, _ => by cases h
  | .list ds, _, h, .list a b => .lst a (rp_dps ds _ h b)
  | .tup ds, _, h, .tup a b => .tup a (rp_dps ds _ h b)
theorem rp_dps : ∀ (ds : List Dat) (vs : List V), Dat.plains ds = true → RpL K H vs ds → DpAll K H vs (Dat.pys ds)
  | [], _, _, .nil => .nil
  | d :: ds, _, h, .cons a b => by
    unfold Dat.plains at h
    rw [Bool.and_eq_true] at h
    exact .cons (rp_dp d _ h.1 a) (rp_dps ds _ h.2 b)
end
mutual
theorem plain_lay : ∀ d : Dat, d.plain = true → PyData.canLay0 d.py = true ∧ PyData.depth d.py = d.dep
  | .non, _ => ⟨rfl, by simp [Dat.py, PyData.depth, Dat.dep]⟩
  | .int _, _ => ⟨rfl, by simp [Dat.py, PyData.depth, Dat.dep]⟩
  | .str x, h => ⟨by simpa [Dat.py, PyData.canLay0, PyData.strOk, Dat.plain] using h, by simp [Dat.py, PyData.depth, Dat.dep]⟩
  | .bl _, h => by cases h
  | .dict _, h => by cases h
  | .list ds, h => by
    obtain ⟨a, b⟩ := plain_lays ds h
    exact ⟨by simpa [Dat.py, PyData.canLay0] using a, by simp [Dat.py, PyData.depth, Dat.dep, b]⟩
  | .tup ds, h => by
    obtain ⟨a, b⟩ := plain_lays ds h
    exact ⟨by simpa [Dat.py, PyData.canLay0] using a, by simp [Dat.py, PyData.depth, Dat.dep, b]⟩
theorem plain_lays : ∀ ds : List Dat, Dat.plains ds = true → PyData.canLayAll0 (Dat.pys ds) = true ∧ PyData.depthAll (Dat.pys ds) = Dat.deps ds
  | [], _ => ⟨by simp [Dat.pys, PyData.canLayAll0], by simp [Dat.pys, PyData.depthAll, Dat.deps]⟩
  | d :: ds, h => by
    unfold Dat.plains at h
    rw [Bool.and_eq_true] at h
    obtain ⟨a, b⟩ := plain_lay d h.1
    obtain ⟨a2, b2⟩ := plain_lays ds h.2
    exact ⟨by simp [Dat.pys, PyData.canLayAll0, a, a2], by simp [Dat.pys, PyData.depthAll, Dat.deps, b, b2]⟩
end
theorem plain_shaped {d : Dat} (h : d.plain = true) (hd : d.dep ≤ 64) : SeqAt.shaped d.py = true := by
  obtain ⟨a, b⟩ := plain_lay d h
  unfold SeqAt.shaped
  rw [a, b, decide_eq_true hd]
  rfl
mutual
theorem eqv_iff : ∀ d e : Dat, d.plain = true → e.plain = true → (PyData.eqv d.py e.py = true ↔ d = e)
  | .non, e, _, h => by cases e <;> simp_all [Dat.py, PyData.eqv, Dat.plain]
  | .int i, e, _, h => by cases e <;> simp_all [Dat.py, PyData.eqv, Dat.plain]
  | .str i, e, _, h => by cases e <;> simp_all [Dat.py, PyData.eqv, Dat.plain]
  | .bl _, _, h, _ => by cases h
  | .dict _, _, h, _ => by cases h
  | .list ds, e, h1, h => by
    cases e with
    | list es => simpa [Dat.py, PyData.eqv] using eqvs_iff ds es h1 h
    | _ => simp_all [Dat.py, PyData.eqv, Dat.plain]
  | .tup ds, e, h1, h => by
    cases e with
    | tup es => simpa [Dat.py, PyData.eqv] using eqvs_iff ds es h1 h
    | _ => simp_all [Dat.py, PyData.eqv, Dat.plain]
theorem eqvs_iff : ∀ ds es : List Dat, Dat.plains ds = true → Dat.plains es = true → (PyData.eqvAll (Dat.pys ds) (Dat.pys es) = true ↔ ds = es)
  | [], [], _, _ => by simp [Dat.pys, PyData.eqvAll]
  | [], _ :: _, _, _ => by simp [Dat.pys, PyData.eqvAll]
  | _ :: _, [], _, _ => by simp [Dat.pys, PyData.eqvAll]
  | d :: ds, e :: es, h1, h2 => by
    unfold Dat.plains at h1 h2
    rw [Bool.and_eq_true] at h1 h2
    have a := eqv_iff d e h1.1 h2.1
    have b := eqvs_iff ds es h1.2 h2.2
    simp [Dat.pys, PyData.eqvAll, a, b]
end
open Classical in
noncomputable def sameD (x y : Dat) : Bool := decide (x = y)
theorem sameD_true {x y : Dat} : sameD x y = true ↔ x = y := by unfold sameD; simp
theorem sameD_self {x : Dat} : sameD x x = true := sameD_true.mpr rfl
theorem eqv_same {d e : Dat} (h1 : d.plain = true) (h2 : e.plain = true) : PyData.eqv d.py e.py = sameD d e := by
  rw [Bool.eq_iff_iff, sameD_true, eqv_iff d e h1 h2]
def mEqD (x : Dat) (y : Dat) (P : Dat → Prop) : Prop := (x.plain = true ∧ x.dep ≤ 64) ∧ (y.plain = true ∧ y.dep ≤ 64) ∧ P (.bl (sameD x y))
theorem mEqD_e (x : Dat) (y : Dat) (P : Dat → Prop) : mEqD  x y P = ((x.plain = true ∧ x.dep ≤ 64) ∧ (y.plain = true ∧ y.dep ≤ 64) ∧ P (.bl (sameD x y))) := rfl
def mNeD (x : Dat) (y : Dat) (P : Dat → Prop) : Prop := (x.plain = true ∧ x.dep ≤ 64) ∧ (y.plain = true ∧ y.dep ≤ 64) ∧ P (.bl (!sameD x y))
theorem mNeD_e (x : Dat) (y : Dat) (P : Dat → Prop) : mNeD  x y P = ((x.plain = true ∧ x.dep ≤ 64) ∧ (y.plain = true ∧ y.dep ≤ 64) ∧ P (.bl (!sameD x y))) := rfl
theorem sr_eqD : SimR K (rEqD K) mEqD := fun H x y dx dy P rx ry hm Q q =>
  ⟨_, _, rp_dp _ _ hm.1.1 rx, rp_dp _ _ hm.2.1.1 ry, plain_shaped hm.1.1 hm.1.2, plain_shaped hm.2.1.1 hm.2.1.2, q _ _ H (by rw [eqv_same hm.1.1 hm.2.1.1]; exact hm.2.2) (Ex.refl H) fun _ => .bl _⟩
theorem sr_neD : SimR K (rNeD K) mNeD := fun H x y dx dy P rx ry hm Q q =>
  ⟨_, _, rp_dp _ _ hm.1.1 rx, rp_dp _ _ hm.2.1.1 ry, plain_shaped hm.1.1 hm.1.2, plain_shaped hm.2.1.1 hm.2.1.2, q _ _ H (by rw [eqv_same hm.1.1 hm.2.1.1]; exact hm.2.2) (Ex.refl H) fun _ => .bl _⟩
/-! index -/
theorem RpL.atI {ws : List V} {ds : List Dat} {i : Int} {d : Dat} (r : RpL K H ws ds) (h : L2.atI ds i = some d) : ∃ w, L2.atI ws i = some w ∧ Rp K H w d := by
  unfold L2.atI at h ⊢
  rw [r.len]
  cases hj : ixN ds.length i with
  | none => rw [hj] at h; cases h
  | some j =>
    rw [hj] at h
    obtain ⟨w, a, b⟩ := r.get' (i := j) h
    exact ⟨w, a, b⟩
def mIxL (x : Dat) (y : Dat) (P : Dat → Prop) : Prop := match x, y with
  | .list ds, .int i => ∃ d, L2.atI ds i = some d ∧ P d
  | _, _ => False
theorem mIxL_e (x : Dat) (y : Dat) (P : Dat → Prop) : mIxL  x y P = (match x, y with
  | .list ds, .int i => ∃ d, L2.atI ds i = some d ∧ P d
  | _, _ => False) := rfl
def mIxT (x : Dat) (y : Dat) (P : Dat → Prop) : Prop := match x, y with
  | .tup ds, .int i => ∃ d, L2.atI ds i = some d ∧ P d
  | _, _ => False
theorem mIxT_e (x : Dat) (y : Dat) (P : Dat → Prop) : mIxT  x y P = (match x, y with
  | .tup ds, .int i => ∃ d, L2.atI ds i = some d ∧ P d
  | _, _ => False) := rfl
theorem sm_ixL (h1 : SimE K H0 S0 .c ta ma) (h2 : SimE K H0 S0 .w tb mb) : SimE K H0 S0 m (tOp (rIxL K) ta tb) (mOp mIxL ma mb) := fun gs S σ H env P hH hm Q q =>
  h1 gs S σ H env _ hH hm _ fun x dx H1 hx e1 r1 => h2 gs S σ H1 env _ (hH.mono e1) hx _ fun y dy H2 hy e2 r2 => by
    unfold mIxL at hy
    split at hy
    · obtain ⟨d, h, hP⟩ := hy
      obtain ⟨p, ws, rfl, sq, rl⟩ := (r1.mono e2).list (by intro z; cases z)
      obtain ⟨w, hw, rw'⟩ := rl.atI h
      cases r2
      exact ⟨p, ws, _, w, rfl, rfl, sq, hw, q w d H2 hP (e1.trans e2) (RpM.of_s rw')⟩
    · exact hy.elim
theorem sm_ixT (h1 : SimE K H0 S0 .c ta ma) (h2 : SimE K H0 S0 .w tb mb) : SimE K H0 S0 m (tOp (rIxT K) ta tb) (mOp mIxT ma mb) := fun gs S σ H env P hH hm Q q =>
  h1 gs S σ H env _ hH hm _ fun x dx H1 hx e1 r1 => h2 gs S σ H1 env _ (hH.mono e1) hx _ fun y dy H2 hy e2 r2 => by
    unfold mIxT at hy
    split at hy
    · obtain ⟨d, h, hP⟩ := hy
      obtain ⟨p, ws, rfl, sq, rl⟩ := (r1.mono e2).tup (by intro z; cases z)
      obtain ⟨w, hw, rw'⟩ := rl.atI h
      cases r2
      exact ⟨p, ws, _, w, rfl, rfl, sq, hw, q w d H2 hP (e1.trans e2) (RpM.of_s rw')⟩
    · exact hy.elim
/-- .. of something that may reach what is built: the item too -/
theorem sm_ixLw (h1 : SimE K H0 S0 .w ta ma) (h2 : SimE K H0 S0 .w tb mb) : SimE K H0 S0 .w (tOp (rIxL K) ta tb) (mOp mIxL ma mb) := fun gs S σ H env P hH hm Q q =>
  h1 gs S σ H env _ hH hm _ fun x dx H1 hx e1 r1 => h2 gs S σ H1 env _ (hH.mono e1) hx _ fun y dy H2 hy e2 r2 => by
    unfold mIxL at hy
    split at hy
    · obtain ⟨d, h, hP⟩ := hy
      cases Rp.mono e2 r1 with
      | list sq rl =>
        obtain ⟨w, hw, rw'⟩ := rl.atI h
        cases r2
        exact ⟨_, _, _, w, rfl, rfl, sq, hw, q w d H2 hP (e1.trans e2) rw'⟩
    · exact hy.elim
def mIxS (x : Dat) (y : Dat) (P : Dat → Prop) : Prop := match x, y with
  | .str z, .int i => z.length ≤ 100000 ∧ ∃ c, L2.atI z.cps.toList i = some c ∧ P (.str ⟨#[c]⟩)
  | _, _ => False
theorem mIxS_e (x : Dat) (y : Dat) (P : Dat → Prop) : mIxS  x y P = (match x, y with
  | .str z, .int i => z.length ≤ 100000 ∧ ∃ c, L2.atI z.cps.toList i = some c ∧ P (.str ⟨#[c]⟩)
  | _, _ => False) := rfl
theorem sr_ixS : SimR K rIxS mIxS := fun H x y dx dy P rx ry hm Q q => by
  unfold mIxS at hm
  split at hm
  · cases rx; cases ry
    obtain ⟨h1, c, h2, h3⟩ := hm
    exact ⟨_, _, c, rfl, rfl, sz_of h1, h2, q _ _ H h3 (Ex.refl H) fun _ => .str _⟩
  · exact hm.elim
/-- a dict of the module, by what it holds -/
def mTab (tab : List (Str × Dat)) (mb : ME) (env : PEnv) (P : Dat → Prop) : Prop := mb env fun y => match y with
  | .str k => ∃ d, (k, d) ∈ tab ∧ P d
  | _ => False
theorem mTab_e (tab : List (Str × Dat)) (mb : ME) (env : PEnv) (P : Dat → Prop) : mTab tab mb env P = (mb env fun y => match y with
  | .str k => ∃ d, (k, d) ∈ tab ∧ P d
  | _ => False) := rfl
theorem sm_tab {w : World} {p : Addr} {tab : List (Str × Dat)} (ht : ∀ k d, (k, d) ∈ tab → ∃ v, KDct K w p k v ∧ ∀ G, Rp K G v d) (h2 : SimE K H0 S0 .w tb mb) : SimE K H0 S0 m (tOp (rIxD K w) (tC (.ref p)) tb) (mTab tab mb) := fun gs S σ H env P hH hm Q q =>
  h2 gs S σ H env _ hH hm _ fun y dy H2 hy e2 r2 => by
    split at hy
    · obtain ⟨d, h, hP⟩ := hy
      obtain ⟨v, hk, hv⟩ := ht _ _ h
      cases r2
      exact ⟨p, _, v, rfl, rfl, hk, q v d H2 hP e2 (RpM.of_s (hv _))⟩
    · exact hy.elim
/-! dicts -/
def keyD : Dat → Option Key
  | .int i => some (.inl i)
  | .str x => some (.inr x)
  | _ => none
theorem keyD_kV {v : V} {d : Dat} {k : Key} (h : Rp K H v d) (e : keyD d = some k) : v = kV k := by
  cases h <;> first | (cases e; rfl) | cases e
def mDGet (ma mb : ME) (env : PEnv) (P : Dat → Prop) : Prop := ma env fun x => mb env fun y => match x with
  | .dict es => ∃ k d, keyD y = some k ∧ valG es k = some d ∧ P d
  | _ => False
theorem mDGet_e (ma mb : ME) (env : PEnv) (P : Dat → Prop) : mDGet ma mb env P = (ma env fun x => mb env fun y => match x with
  | .dict es => ∃ k d, keyD y = some k ∧ valG es k = some d ∧ P d
  | _ => False) := rfl
theorem sm_dget (h1 : SimE K H0 S0 .c ta ma) (h2 : SimE K H0 S0 .w tb mb) : SimE K H0 S0 m (tDGet ta tb) (mDGet ma mb) := fun gs S σ H env P hH hm Q q =>
  h1 gs S σ H env _ hH hm _ fun x dx H1 hx e1 r1 => h2 gs S σ H1 env _ (hH.mono e1) hx _ fun y dy H2 hy e2 r2 => by
    split at hy
    · obtain ⟨k, d, hk, hv, hP⟩ := hy
      obtain ⟨p, kvs, rfl, rd, rk⟩ := (r1.mono e2).dict (by intro z; cases z)
      obtain rfl := keyD_kV r2.weak hk
      rcases rk.val (k := k) with ⟨_, b⟩ | ⟨v, d', a, b, c⟩
      · rw [hv] at b; cases b
      · rw [hv] at b
        obtain rfl := Option.some.inj b
        exact ⟨p, v, rfl, .inl ⟨kvs, k, rd, rfl, a.symm⟩, q v d H2 hP (e1.trans e2) (RpM.of_s c)⟩
    · exact hy.elim
def mDIn (neg : Bool) (mb ma : ME) (env : PEnv) (P : Dat → Prop) : Prop := mb env fun y => ma env fun x => match x with
  | .dict es => ∃ k, keyD y = some k ∧ P (.bl (if neg = true then !(valG es k).isSome else (valG es k).isSome))
  | _ => False
theorem mDIn_e (neg : Bool) (mb ma : ME) (env : PEnv) (P : Dat → Prop) : mDIn neg mb ma env P = (mb env fun y => ma env fun x => match x with
  | .dict es => ∃ k, keyD y = some k ∧ P (.bl (if neg = true then !(valG es k).isSome else (valG es k).isSome))
  | _ => False) := rfl
theorem RpK.some {k : Key} {ws : List (Key × V)} {ds : List (Key × Dat)} (r : RpK K H ws ds) : (valV ws k).isSome = (valG ds k).isSome := by
  rcases r.val (k := k) with ⟨a, b⟩ | ⟨v, d, a, b, _⟩ <;> rw [a, b] <;> rfl
theorem sm_din (h2 : SimE K H0 S0 .w tb mb) (h1 : SimE K H0 S0 .w ta ma) : SimE K H0 S0 m (tDIn tb ta) (mDIn false mb ma) := fun gs S σ H env P hH hm Q q =>
  h2 gs S σ H env _ hH hm _ fun y dy H1 hy e1 r1 => h1 gs S σ H1 env _ (hH.mono e1) hy _ fun x dx H2 hx e2 r2 => by
    split at hx
    · obtain ⟨k, hk, hP⟩ := hx
      obtain rfl := keyD_kV r1.weak hk
      cases r2 with
      | dict rd rk => exact ⟨_, _, rfl, .inl ⟨_, k, rd, rfl, rfl⟩, q _ _ H2 (by rw [rk.some]; exact hP) (e1.trans e2) (RpM.of_s (.bl _))⟩
    · exact hx.elim
theorem sm_dnotin (h2 : SimE K H0 S0 .w tb mb) (h1 : SimE K H0 S0 .w ta ma) : SimE K H0 S0 m (tDNotIn tb ta) (mDIn true mb ma) := fun gs S σ H env P hH hm Q q =>
  h2 gs S σ H env _ hH hm _ fun y dy H1 hy e1 r1 => h1 gs S σ H1 env _ (hH.mono e1) hy _ fun x dx H2 hx e2 r2 => by
    split at hx
    · obtain ⟨k, hk, hP⟩ := hx
      obtain rfl := keyD_kV r1.weak hk
      cases r2 with
      | dict rd rk => exact ⟨_, _, rfl, .inl ⟨_, k, rd, rfl, rfl⟩, q _ _ H2 (by rw [rk.some]; exact hP) (e1.trans e2) (RpM.of_s (.bl _))⟩
    · exact hx.elim
end
end GR
namespace GR
open PySem PySem.Spec PyProof.Rows L2 Evl
section
variable {K : PySem.W.Frag} {H0 G H H' : Hp} {S0 S : List Addr} {m m1 m2 : Md} {te ta tb tc tx : TE} {me ma mb mc mx : ME} {tr ts : TA} {mr ms : MA} {tt tu : TT} {mt mu : MT} {to tl th : TO} {mo ml mh : MO}
def mDGet2 (ma mb mx : ME) (env : PEnv) (P : Dat → Prop) : Prop := ma env fun x => match x with
  | .dict es => mb env fun y => mx env fun z => ∃ k, keyD y = some k ∧ P ((valG es k).getD z)
  | _ => False
theorem mDGet2_e (ma mb mx : ME) (env : PEnv) (P : Dat → Prop) : mDGet2 ma mb mx env P = (ma env fun x => match x with
  | .dict es => mb env fun y => mx env fun z => ∃ k, keyD y = some k ∧ P ((valG es k).getD z)
  | _ => False) := rfl
theorem sm_dget2 (h1 : SimE K H0 S0 .c ta ma) (h2 : SimE K H0 S0 .w tb mb) (h3 : SimE K H0 S0 .s tx mx) : SimE K H0 S0 m (tDGet2 ta tb tx) (mDGet2 ma mb mx) := fun gs S σ H env P hH hm Q q =>
  h1 gs S σ H env _ hH hm _ fun x dx H1 hx e1 r1 => by
    split at hx
    · obtain ⟨p, kvs, rfl, rd, rk⟩ := r1.dict (by intro z; cases z)
      refine ⟨p, rfl, .inl ⟨kvs, rd⟩, h2 gs S σ H1 env _ (hH.mono e1) hx _ fun y dy H2 hy e2 r2 => h3 gs S σ H2 env _ ((hH.mono e1).mono e2) hy _ fun z dz H3 hz e3 r3 => ?_⟩
      obtain ⟨k, hk, hP⟩ := hz
      obtain rfl := keyD_kV r2.weak hk
      refine ⟨_, .inl ⟨kvs, k, ex_rd (e2.trans e3) rd, rfl, rfl⟩, ?_⟩
      rcases rk.val (k := k) with ⟨a, b⟩ | ⟨v, d', a, b, c⟩
      · rw [a]
        rw [b] at hP
        exact q _ _ H3 hP ((e1.trans e2).trans e3) (RpM.of_s r3)
      · rw [a]
        rw [b] at hP
        exact q _ _ H3 hP ((e1.trans e2).trans e3) (RpM.of_s (c.mono (era_ex (e2.trans e3))))
    · exact hx.elim
/-! new objects -/
theorem sm_new (h : SimF K H0 S0 te me) : SimE K H0 S0 m te me := fun gs S σ H env P hH hm Q q => h gs S σ H env P hH hm Q fun p d H' hP hp e ho => q _ d H' hP e (RpM.of_s (ho.rp (hH.new hp) (era_le fun a ha => .inl (List.mem_cons_of_mem _ ha))))
def mNil (e_ : PEnv) (P : List Dat → Prop) : Prop := P []
theorem mNil_e (e_ : PEnv) (P : List Dat → Prop) : mNil  e_ P = (P []) := rfl
def mCons (ma : ME) (mr : MA) (env : PEnv) (P : List Dat → Prop) : Prop := ma env fun x => mr env fun xs => P (x :: xs)
theorem mCons_e (ma : ME) (mr : MA) (env : PEnv) (P : List Dat → Prop) : mCons ma mr env P = (ma env fun x => mr env fun xs => P (x :: xs)) := rfl
theorem sa_nil : SimA K H0 S0 m tNil mNil := fun gs S σ H env P _ hm Q q => q [] [] H hm (Ex.refl H) trivial
theorem sa_cons (h : SimE K H0 S0 m ta ma) (hr : SimA K H0 S0 m tr mr) : SimA K H0 S0 m (tCons ta tr) (mCons ma mr) := fun gs S σ H env P hH hm Q q =>
  h gs S σ H env _ hH hm _ fun x dx H1 hx e1 r1 => hr gs S σ H1 env _ (hH.mono e1) hx _ fun vs ds H2 hP e2 r2 => q (x :: vs) (dx :: ds) H2 hP (e1.trans e2) ⟨r1.mono e2, r2⟩
def mLst (ma : MA) (env : PEnv) (P : Dat → Prop) : Prop := ma env fun ds => ds.length ≤ 100000 ∧ P (.list ds)
theorem mLst_e (ma : MA) (env : PEnv) (P : Dat → Prop) : mLst ma env P = (ma env fun ds => ds.length ≤ 100000 ∧ P (.list ds)) := rfl
def mTup (ma : MA) (env : PEnv) (P : Dat → Prop) : Prop := ma env fun ds => ds.length ≤ 100000 ∧ P (.tup ds)
theorem mTup_e (ma : MA) (env : PEnv) (P : Dat → Prop) : mTup ma env P = (ma env fun ds => ds.length ≤ 100000 ∧ P (.tup ds)) := rfl
theorem RpMs.len : ∀ {ws : List V} {ds : List Dat}, RpMs m K H S ws ds → ws.length = ds.length := fun h => (RpMs.weak h).len
theorem sf_lst (h : SimA K H0 S0 .s tr mr) : SimF K H0 S0 (tLst tr) (mLst mr) := fun gs S σ H env P hH hm Q q =>
  h gs S σ H env _ hH hm _ fun vs ds H1 hx e1 r1 => ⟨sz_of (by rw [r1.len]; exact hx.1), fun p hp => q p _ _ hx.2 (fresh_back e1 hp) (e1.trans (Ex.new hp)) ⟨vs, upd_same, r1.strong.mono (era_new hp)⟩⟩
theorem sm_tup (h : SimA K H0 S0 .s tr mr) : SimE K H0 S0 m (tTup tr) (mTup mr) := fun gs S σ H env P hH hm Q q =>
  h gs S σ H env _ hH hm _ fun vs ds H1 hx e1 r1 => ⟨sz_of (by rw [r1.len]; exact hx.1), fun p hp => q (.ref p) (.tup ds) _ hx.2 (e1.trans (Ex.new hp)) (RpM.of_s (.tup (st_of (by rw [era_out ((hH.mono e1).new hp)]; exact upd_same)) (r1.strong.mono (era_ex (Ex.new hp)))))⟩
theorem sm_tupW (h : SimA K H0 S0 .w tr mr) : SimE K H0 S0 .w (tTup tr) (mTup mr) := fun gs S σ H env P hH hm Q q =>
  h gs S σ H env _ hH hm _ fun vs ds H1 hx e1 r1 => ⟨sz_of (by rw [r1.len]; exact hx.1), fun p hp => q (.ref p) (.tup ds) _ hx.2 (e1.trans (Ex.new hp)) (Rp.tup (st_of upd_same) ((RpMs.weak r1).mono (Ex.new hp)))⟩
theorem sm_lstW (h : SimA K H0 S0 .w tr mr) : SimE K H0 S0 .w (tLst tr) (mLst mr) := fun gs S σ H env P hH hm Q q =>
  h gs S σ H env _ hH hm _ fun vs ds H1 hx e1 r1 => ⟨sz_of (by rw [r1.len]; exact hx.1), fun p hp => q (.ref p) (.list ds) _ hx.2 (e1.trans (Ex.new hp)) (Rp.list (sq_of upd_same) ((RpMs.weak r1).mono (Ex.new hp)))⟩
def mDNew (e_ : PEnv) (P : Dat → Prop) : Prop := P (.dict [])
theorem mDNew_e (e_ : PEnv) (P : Dat → Prop) : mDNew  e_ P = (P (.dict [])) := rfl
theorem sf_dnew : SimF K H0 S0 tDNewK mDNew := fun gs S σ H env P hH hm Q q => fun p hp => q p _ _ hm hp (Ex.new hp) ⟨[], upd_same, .nil⟩
/-! list + list, list * int, slices -/
def cutG {α : Type} (xs : List α) (lo hi : Option Int) : List α := (xs.drop (HT.sIx xs.length 0 lo)).take (HT.sIx xs.length xs.length hi - HT.sIx xs.length 0 lo)
theorem RpL.cut {ws : List V} {ds : List Dat} (r : RpL K H ws ds) (lo hi : Option Int) : RpL K H (cutV ws lo hi) (cutG ds lo hi) := by
  unfold cutV cutG
  rw [r.len]
  exact (r.drop _).take _
def mCatL (ma mb : ME) (env : PEnv) (P : Dat → Prop) : Prop := ma env fun x => mb env fun y => match x, y with
  | .list xs, .list ys => xs.length + ys.length ≤ 100000 ∧ P (.list (xs ++ ys))
  | _, _ => False
theorem mCatL_e (ma mb : ME) (env : PEnv) (P : Dat → Prop) : mCatL ma mb env P = (ma env fun x => mb env fun y => match x, y with
  | .list xs, .list ys => xs.length + ys.length ≤ 100000 ∧ P (.list (xs ++ ys))
  | _, _ => False) := rfl
theorem sf_catL (h1 : SimE K H0 S0 .c ta ma) (h2 : SimE K H0 S0 .c tb mb) : SimF K H0 S0 (tOp (rCatL K) ta tb) (mCatL ma mb) := fun gs S σ H env P hH hm Q q =>
  h1 gs S σ H env _ hH hm _ fun x dx H1 hx e1 r1 => h2 gs S σ H1 env _ (hH.mono e1) hx _ fun y dy H2 hy e2 r2 => by
    split at hy
    · obtain ⟨p, ws, rfl, s1, l1⟩ := (r1.mono e2).list (by intro z; cases z)
      obtain ⟨p', ws', rfl, s2, l2⟩ := r2.list (by intro z; cases z)
      exact ⟨p, p', ws, ws', rfl, rfl, s1, s2, sz_of (by rw [l1.len, l2.len]; exact hy.1), fun r hr => q r _ _ hy.2 (fresh_back (e1.trans e2) hr) ((e1.trans e2).trans (Ex.new hr)) ⟨_, upd_same, (l1.append l2).mono (era_new hr)⟩⟩
    · exact hy.elim
def mRepL (ma mb : ME) (env : PEnv) (P : Dat → Prop) : Prop := ma env fun x => mb env fun y => match x, y with
  | .list xs, .int k => (-100000 ≤ k ∧ k ≤ 100000 ∧ xs.length * k.toNat ≤ 100000) ∧ P (.list (List.replicate k.toNat xs).flatten)
  | _, _ => False
theorem mRepL_e (ma mb : ME) (env : PEnv) (P : Dat → Prop) : mRepL ma mb env P = (ma env fun x => mb env fun y => match x, y with
  | .list xs, .int k => (-100000 ≤ k ∧ k ≤ 100000 ∧ xs.length * k.toNat ≤ 100000) ∧ P (.list (List.replicate k.toNat xs).flatten)
  | _, _ => False) := rfl
theorem RpL.rep {ws : List V} {ds : List Dat} (r : RpL K H ws ds) : ∀ n : Nat, RpL K H (List.replicate n ws).flatten (List.replicate n ds).flatten
  | 0 => .nil
  | n + 1 => by
    rw [List.replicate_succ, List.replicate_succ, List.flatten_cons, List.flatten_cons]
    exact r.append (RpL.rep r n)
/-- the first a new list -/
theorem sf_rep (h1 : SimF K H0 S0 ta ma) (h2 : SimE K H0 S0 .w tb mb) : SimF K H0 S0 (tOp rRep ta tb) (mRepL ma mb) := fun gs S σ H env P hH hm Q q =>
  h1 gs S σ H env _ hH hm _ fun p dx H1 hx hp1 e1 r1 => h2 gs S σ H1 env _ (hH.mono e1) hx _ fun y dy H2 hy e2 r2 => by
    split at hy
    · rename_i ds k
      obtain ⟨ws, a, b⟩ := r1
      cases r2
      obtain ⟨⟨h1, h2, h3⟩, hP⟩ := hy
      refine ⟨p, k, ws, rfl, rfl, e2 _ _ a, by omega, by omega, sz_of (by rw [b.len]; exact h3), fun r hr => q r _ _ hP (fresh_back (e1.trans e2) hr) ((e1.trans e2).trans (Ex.new hr)) ⟨_, upd_same, RpL.rep ?_ _⟩⟩
      have b2 : RpL K (era H2 S) ws ds := (b.mono (era_ex e2)).mono (era_le fun a ha => .inl (List.mem_cons_of_mem _ ha))
      exact b2.mono (era_new hr)
    · exact hy.elim
def mNoPart (e_ : PEnv) (P : Option Int → Prop) : Prop := P none
theorem mNoPart_e (e_ : PEnv) (P : Option Int → Prop) : mNoPart  e_ P = (P none) := rfl
def mPart (me : ME) (env : PEnv) (P : Option Int → Prop) : Prop := me env fun x => match x with | .int i => P (some i) | _ => False
theorem mPart_e (me : ME) (env : PEnv) (P : Option Int → Prop) : mPart me env P = (me env fun x => match x with | .int i => P (some i) | _ => False) := rfl
theorem so_none : SimO K H0 S0 tNoPart mNoPart := fun gs S σ H env P _ hm Q q => q none H hm (Ex.refl H)
theorem so_some (h : SimE K H0 S0 .w te me) : SimO K H0 S0 (tPart te) (mPart me) := fun gs S σ H env P hH hm Q q => h gs S σ H env _ hH hm _ fun x dx H1 hx e1 r1 => by
  split at hx
  · cases r1
    exact ⟨_, rfl, q _ H1 hx e1⟩
  · exact hx.elim
def mSlL (me : ME) (ml mh : MO) (env : PEnv) (P : Dat → Prop) : Prop := me env fun x => ml env fun l => mh env fun h => match x with
  | .list xs => P (.list (cutG xs l h))
  | _ => False
theorem mSlL_e (me : ME) (ml mh : MO) (env : PEnv) (P : Dat → Prop) : mSlL me ml mh env P = (me env fun x => ml env fun l => mh env fun h => match x with
  | .list xs => P (.list (cutG xs l h))
  | _ => False) := rfl
theorem sf_slL (h : SimE K H0 S0 .c te me) (h1 : SimO K H0 S0 tl ml) (h2 : SimO K H0 S0 th mh) : SimF K H0 S0 (tSl (rSlL K) te tl th) (mSlL me ml mh) := fun gs S σ H env P hH hm Q q =>
  h gs S σ H env _ hH hm _ fun x dx H1 hx e1 r1 => h1 gs S σ H1 env _ (hH.mono e1) hx _ fun l H2 hl e2 => h2 gs S σ H2 env _ ((hH.mono e1).mono e2) hl _ fun u H3 hu e3 => by
    split at hu
    · obtain ⟨p, ws, rfl, s1, l1⟩ := (r1.mono (e2.trans e3)).list (by intro z; cases z)
      exact ⟨p, ws, rfl, s1, fun r hr => q r _ _ hu (fresh_back ((e1.trans e2).trans e3) hr) (((e1.trans e2).trans e3).trans (Ex.new hr)) ⟨_, upd_same, (l1.cut l u).mono (era_new hr)⟩⟩
    · exact hu.elim
def mSlS (me : ME) (ml mh : MO) (env : PEnv) (P : Dat → Prop) : Prop := me env fun x => ml env fun l => mh env fun h => match x with
  | .str z => z.length ≤ 100000 ∧ P (.str (cutS z l h))
  | _ => False
theorem mSlS_e (me : ME) (ml mh : MO) (env : PEnv) (P : Dat → Prop) : mSlS me ml mh env P = (me env fun x => ml env fun l => mh env fun h => match x with
  | .str z => z.length ≤ 100000 ∧ P (.str (cutS z l h))
  | _ => False) := rfl
theorem sm_slS (h : SimE K H0 S0 .w te me) (h1 : SimO K H0 S0 tl ml) (h2 : SimO K H0 S0 th mh) : SimE K H0 S0 m (tSl rSlS te tl th) (mSlS me ml mh) := fun gs S σ H env P hH hm Q q =>
  h gs S σ H env _ hH hm _ fun x dx H1 hx e1 r1 => h1 gs S σ H1 env _ (hH.mono e1) hx _ fun l H2 hl e2 => h2 gs S σ H2 env _ ((hH.mono e1).mono e2) hl _ fun u H3 hu e3 => by
    split at hu
    · cases r1
      exact ⟨_, rfl, sz_of hu.1, q _ _ H3 hu.2 ((e1.trans e2).trans e3) (RpM.of_s (.str _))⟩
    · exact hu.elim
def mSlT (me : ME) (ml mh : MO) (env : PEnv) (P : Dat → Prop) : Prop := me env fun x => ml env fun l => mh env fun h => match x with
  | .tup xs => ¬ (HT.sIx xs.length 0 l = 0 ∧ HT.sIx xs.length xs.length h = xs.length) ∧ P (.tup (cutG xs l h))
  | _ => False
theorem mSlT_e (me : ME) (ml mh : MO) (env : PEnv) (P : Dat → Prop) : mSlT me ml mh env P = (me env fun x => ml env fun l => mh env fun h => match x with
  | .tup xs => ¬ (HT.sIx xs.length 0 l = 0 ∧ HT.sIx xs.length xs.length h = xs.length) ∧ P (.tup (cutG xs l h))
  | _ => False) := rfl
theorem sm_slT (h : SimE K H0 S0 .c te me) (h1 : SimO K H0 S0 tl ml) (h2 : SimO K H0 S0 th mh) : SimE K H0 S0 m (tSl (rSlT K) te tl th) (mSlT me ml mh) := fun gs S σ H env P hH hm Q q =>
  h gs S σ H env _ hH hm _ fun x dx H1 hx e1 r1 => h1 gs S σ H1 env _ (hH.mono e1) hx _ fun l H2 hl e2 => h2 gs S σ H2 env _ ((hH.mono e1).mono e2) hl _ fun u H3 hu e3 => by
    split at hu
    · obtain ⟨p, ws, rfl, s1, l1⟩ := (r1.mono (e2.trans e3)).tup (by intro z; cases z)
      exact ⟨p, ws, rfl, s1, by rw [l1.len]; exact hu.1, fun r hr => q (.ref r) _ _ hu.2 (((e1.trans e2).trans e3).trans (Ex.new hr)) (RpM.of_s (.tup (st_of (by rw [era_out ((((hH.mono e1).mono e2).mono e3).new hr)]; exact upd_same)) ((l1.cut l u).mono (era_ex (Ex.new hr)))))⟩
    · exact hu.elim
def mCatT (ma mb : ME) (env : PEnv) (P : Dat → Prop) : Prop := ma env fun x => mb env fun y => match x, y with
  | .tup xs, .tup ys => (xs ≠ [] ∧ ys ≠ [] ∧ xs.length + ys.length ≤ 100000) ∧ P (.tup (xs ++ ys))
  | _, _ => False
theorem mCatT_e (ma mb : ME) (env : PEnv) (P : Dat → Prop) : mCatT ma mb env P = (ma env fun x => mb env fun y => match x, y with
  | .tup xs, .tup ys => (xs ≠ [] ∧ ys ≠ [] ∧ xs.length + ys.length ≤ 100000) ∧ P (.tup (xs ++ ys))
  | _, _ => False) := rfl
theorem RpL.ne_nil {ws : List V} {ds : List Dat} (r : RpL K H ws ds) (h : ds ≠ []) : ws ≠ [] := by
  cases r with
  | nil => exact absurd rfl h
  | cons _ _ => intro z; cases z
theorem sm_catT (h1 : SimE K H0 S0 .c ta ma) (h2 : SimE K H0 S0 .c tb mb) : SimE K H0 S0 m (tOp (rCatT K) ta tb) (mCatT ma mb) := fun gs S σ H env P hH hm Q q =>
  h1 gs S σ H env _ hH hm _ fun x dx H1 hx e1 r1 => h2 gs S σ H1 env _ (hH.mono e1) hx _ fun y dy H2 hy e2 r2 => by
    split at hy
    · obtain ⟨p, ws, rfl, s1, l1⟩ := (r1.mono e2).tup (by intro z; cases z)
      obtain ⟨p', ws', rfl, s2, l2⟩ := r2.tup (by intro z; cases z)
      obtain ⟨⟨n1, n2, hz⟩, hP⟩ := hy
      exact ⟨p, p', ws, ws', rfl, rfl, s1, s2, l1.ne_nil n1, sz_of (by rw [l1.len, l2.len]; exact hz), fun z => absurd z (l2.ne_nil n2), fun _ r hr => q (.ref r) _ _ hP ((e1.trans e2).trans (Ex.new hr)) (RpM.of_s (.tup (st_of (by rw [era_out (((hH.mono e1).mono e2).new hr)]; exact upd_same)) ((l1.append l2).mono (era_ex (Ex.new hr)))))⟩
    · exact hy.elim
/-! calls of built-ins -/
def SimB (K : PySem.W.Frag) (r : List V → Hp → VK → Prop) (mr : List Dat → (Dat → Prop) → Prop) : Prop := ∀ (H : Hp) (vs : List V) (ds : List Dat) (P : Dat → Prop), RpL K H vs ds → mr ds P → ∀ Q : VK, (∀ v d H', P d → Ex H H' → (∀ G, Rp K G v d) → Q v H') → r vs H Q
def mCB (mr : List Dat → (Dat → Prop) → Prop) (ma : MA) (env : PEnv) (P : Dat → Prop) : Prop := ma env fun ds => mr ds P
theorem mCB_e (mr : List Dat → (Dat → Prop) → Prop) (ma : MA) (env : PEnv) (P : Dat → Prop) : mCB mr ma env P = (ma env fun ds => mr ds P) := rfl
theorem sm_cb {r : List V → Hp → VK → Prop} {mf : List Dat → (Dat → Prop) → Prop} (hr : SimB K r mf) (h : SimA K H0 S0 .w tr mr) : SimE K H0 S0 m (tCB r tr) (mCB mf mr) := fun gs S σ H env P hH hm Q q =>
  h gs S σ H env _ hH hm _ fun vs ds H1 hx e1 r1 => hr H1 vs ds P r1.weak hx Q fun v d H2 hP e2 r2 => q v d H2 hP (e1.trans e2) (RpM.of_s (r2 _))
def mLen (ds : List Dat) (P : Dat → Prop) : Prop := match ds with
  | [x] => match itemsD x with
    | some xs => P (.int xs.length)
    | none => False
  | _ => False
theorem mLen_e (ds : List Dat) (P : Dat → Prop) : mLen  ds P = (match ds with
  | [x] => match itemsD x with
    | some xs => P (.int xs.length)
    | none => False
  | _ => False) := rfl
theorem sb_len : SimB K (fun xs H Q => ∃ p ys, xs = [.ref p] ∧ (SqL K H p ys ∨ SqT K H p ys) ∧ Q (.int ys.length) H) mLen := fun H vs ds P r hm Q q => by
  unfold mLen at hm
  split at hm
  · split at hm
    · rename_i x xs e
      cases r with
      | cons h r =>
        cases r
        cases h with
        | list a b =>
          obtain rfl := Option.some.inj e
          exact ⟨_, _, rfl, .inl a, q _ _ H (by rw [b.len]; exact hm) (Ex.refl H) fun _ => .int _⟩
        | tup a b =>
          obtain rfl := Option.some.inj e
          exact ⟨_, _, rfl, .inr a, q _ _ H (by rw [b.len]; exact hm) (Ex.refl H) fun _ => .int _⟩
        | _ => cases e
    · exact hm.elim
  · exact hm.elim
theorem sb_lenR : SimB K (Evl.rLenS K) mLen := sb_len
def mLenS (ds : List Dat) (P : Dat → Prop) : Prop := match ds with
  | [.str z] => z.length ≤ 100000 ∧ P (.int z.length)
  | _ => False
theorem mLenS_e (ds : List Dat) (P : Dat → Prop) : mLenS  ds P = (match ds with
  | [.str z] => z.length ≤ 100000 ∧ P (.int z.length)
  | _ => False) := rfl
theorem sb_lenS : SimB K (fun xs H Q => ∃ z, xs = [V.str z] ∧ z.length ≤ sizeLine ∧ Q (.int z.length) H) mLenS := fun H vs ds P r hm Q q => by
  unfold mLenS at hm
  split at hm
  · cases r with
    | cons h r =>
      cases r
      cases h
      exact ⟨_, rfl, sz_of hm.1, q _ _ H hm.2 (Ex.refl H) fun _ => .int _⟩
  · exact hm.elim
def rLenD : List V → Hp → VK → Prop := fun xs H Q => ∃ a kvs, xs = [V.ref a] ∧ Rd H a (.dK kvs) ∧ Q (.int kvs.length) H
theorem call_lenDR {X : Cx} : CallR X (.builtin "len") rLenD := by
  intro pins s σ H xs us Q I r h
  obtain ⟨a, kvs, rfl, ha, q⟩ := h
  obtain ⟨u, rfl, ru⟩ := vals1 r
  cases ru
  exact d_len I ha fun t s' I' => ⟨.int kvs.length, H, I', ⟨t, rfl⟩, q⟩
def mLenD (ds : List Dat) (P : Dat → Prop) : Prop := match ds with
  | [.dict es] => P (.int es.length)
  | _ => False
theorem mLenD_e (ds : List Dat) (P : Dat → Prop) : mLenD  ds P = (match ds with
  | [.dict es] => P (.int es.length)
  | _ => False) := rfl
theorem sb_lenD : SimB K rLenD mLenD := fun H vs ds P r hm Q q => by
  unfold mLenD at hm
  split at hm
  · cases r with
    | cons h r =>
      cases r
      cases h with
      | dict a b => exact ⟨_, _, rfl, a, q _ _ H (by rw [b.len]; exact hm) (Ex.refl H) fun _ => .int _⟩
  · exact hm.elim
def mInt (ds : List Dat) (P : Dat → Prop) : Prop := match ds with
  | [.int i] => P (.int i)
  | [.bl b] => P (.int (if b = true then 1 else 0))
  | _ => False
theorem mInt_e (ds : List Dat) (P : Dat → Prop) : mInt  ds P = (match ds with
  | [.int i] => P (.int i)
  | [.bl b] => P (.int (if b = true then 1 else 0))
  | _ => False) := rfl
theorem sb_int : SimB K (fun xs H Q => (∃ i, xs = [V.int i] ∧ Q (.int i) H) ∨ ∃ k, xs = [V.bl k] ∧ Q (.int (if k = true then 1 else 0)) H) mInt := fun H vs ds P r hm Q q => by
  unfold mInt at hm
  split at hm
  · cases r with
    | cons h r =>
      cases r
      cases h
      exact .inl ⟨_, rfl, q _ _ H hm (Ex.refl H) fun _ => .int _⟩
  · cases r with
    | cons h r =>
      cases r
      cases h
      exact .inr ⟨_, rfl, q _ _ H hm (Ex.refl H) fun _ => .int _⟩
  · exact hm.elim
def mBool (ds : List Dat) (P : Dat → Prop) : Prop := match ds with
  | [.int i] => P (.bl (i != 0))
  | [.bl b] => P (.bl b)
  | _ => False
theorem mBool_e (ds : List Dat) (P : Dat → Prop) : mBool  ds P = (match ds with
  | [.int i] => P (.bl (i != 0))
  | [.bl b] => P (.bl b)
  | _ => False) := rfl
theorem sb_bool : SimB K (fun xs H Q => (∃ i, xs = [V.int i] ∧ Q (.bl (i != 0)) H) ∨ ∃ k, xs = [V.bl k] ∧ Q (.bl k) H) mBool := fun H vs ds P r hm Q q => by
  unfold mBool at hm
  split at hm
  · cases r with
    | cons h r =>
      cases r
      cases h
      exact .inl ⟨_, rfl, q _ _ H hm (Ex.refl H) fun _ => .bl _⟩
  · cases r with
    | cons h r =>
      cases r
      cases h
      exact .inr ⟨_, rfl, q _ _ H hm (Ex.refl H) fun _ => .bl _⟩
  · exact hm.elim
def mStrI (ds : List Dat) (P : Dat → Prop) : Prop := match ds with
  | [.int i] => i.natAbs.log2 < 1920 ∧ P (.str (toString i))
  | _ => False
theorem mStrI_e (ds : List Dat) (P : Dat → Prop) : mStrI  ds P = (match ds with
  | [.int i] => i.natAbs.log2 < 1920 ∧ P (.str (toString i))
  | _ => False) := rfl
theorem sb_strI : SimB K (fun xs H Q => ∃ i, xs = [V.int i] ∧ i.natAbs.log2 < 1920 ∧ Q (.str (toString i)) H) mStrI := fun H vs ds P r hm Q q => by
  unfold mStrI at hm
  split at hm
  · cases r with
    | cons h r =>
      cases r
      cases h
      exact ⟨_, rfl, hm.1, q _ _ H hm.2 (Ex.refl H) fun _ => .str _⟩
  · exact hm.elim
def mMM (f : Int → Int → Int) (ds : List Dat) (P : Dat → Prop) : Prop := match ds with
  | [.int i, .int j] => P (.int (f i j))
  | _ => False
theorem mMM_e (f : Int → Int → Int) (ds : List Dat) (P : Dat → Prop) : mMM f ds P = (match ds with
  | [.int i, .int j] => P (.int (f i j))
  | _ => False) := rfl
theorem sb_mm {f : Int → Int → Int} : SimB K (fun xs H Q => ∃ i j, xs = [V.int i, V.int j] ∧ Q (.int (f i j)) H) (mMM f) := fun H vs ds P r hm Q q => by
  unfold mMM at hm
  split at hm
  · cases r with
    | cons h r =>
      cases r with
      | cons h2 r =>
        cases r
        cases h; cases h2
        exact ⟨_, _, rfl, q _ _ H hm (Ex.refl H) fun _ => .int _⟩
  · exact hm.elim
def mI1 (f : Int → Int) (ds : List Dat) (P : Dat → Prop) : Prop := match ds with
  | [.int i] => P (.int (f i))
  | _ => False
theorem mI1_e (f : Int → Int) (ds : List Dat) (P : Dat → Prop) : mI1 f ds P = (match ds with
  | [.int i] => P (.int (f i))
  | _ => False) := rfl
theorem sb_i1 {f : Int → Int} : SimB K (fun xs H Q => ∃ i, xs = [V.int i] ∧ Q (.int (f i)) H) (mI1 f) := fun H vs ds P r hm Q q => by
  unfold mI1 at hm
  split at hm
  · cases r with
    | cons h r =>
      cases r
      cases h
      exact ⟨_, rfl, q _ _ H hm (Ex.refl H) fun _ => .int _⟩
  · exact hm.elim
def intsD (ns : List Int) : List Dat := ns.map Dat.int
def mSum (ds : List Dat) (P : Dat → Prop) : Prop := ∃ ns : List Int, ds = [.list (intsD ns)] ∧ P (.int ns.sum)
theorem mSum_e (ds : List Dat) (P : Dat → Prop) : mSum  ds P = (∃ ns : List Int, ds = [.list (intsD ns)] ∧ P (.int ns.sum)) := rfl
def mMax (ds : List Dat) (P : Dat → Prop) : Prop := ∃ ns : List Int, ds = [.list (intsD ns)] ∧ 0 < ns.length ∧ ∀ m, m ∈ ns → (∀ y, y ∈ ns → y ≤ m) → P (.int m)
theorem mMax_e (ds : List Dat) (P : Dat → Prop) : mMax  ds P = (∃ ns : List Int, ds = [.list (intsD ns)] ∧ 0 < ns.length ∧ ∀ m, m ∈ ns → (∀ y, y ∈ ns → y ≤ m) → P (.int m)) := rfl
def mMin (ds : List Dat) (P : Dat → Prop) : Prop := ∃ ns : List Int, ds = [.list (intsD ns)] ∧ 0 < ns.length ∧ ∀ m, m ∈ ns → (∀ y, y ∈ ns → m ≤ y) → P (.int m)
theorem mMin_e (ds : List Dat) (P : Dat → Prop) : mMin  ds P = (∃ ns : List Int, ds = [.list (intsD ns)] ∧ 0 < ns.length ∧ ∀ m, m ∈ ns → (∀ y, y ∈ ns → m ≤ y) → P (.int m)) := rfl
def mAll (ds : List Dat) (P : Dat → Prop) : Prop := ∃ ns : List Bool, ds = [.list (ns.map Dat.bl)] ∧ P (.bl (ns.all id))
theorem mAll_e (ds : List Dat) (P : Dat → Prop) : mAll  ds P = (∃ ns : List Bool, ds = [.list (ns.map Dat.bl)] ∧ P (.bl (ns.all id))) := rfl
def mAnyB (ds : List Dat) (P : Dat → Prop) : Prop := ∃ ns : List Bool, ds = [.list (ns.map Dat.bl)] ∧ P (.bl (ns.any id))
theorem mAnyB_e (ds : List Dat) (P : Dat → Prop) : mAnyB  ds P = (∃ ns : List Bool, ds = [.list (ns.map Dat.bl)] ∧ P (.bl (ns.any id))) := rfl
theorem RpL.one_list {vs : List V} {ds : List Dat} (r : RpL K H vs [.list ds]) : ∃ p ws, vs = [.ref p] ∧ SqL K H p ws ∧ RpL K H ws ds := by
  cases r with
  | cons h r =>
    cases r
    cases h with
    | list a b => exact ⟨_, _, rfl, a, b⟩
theorem sb_sum : SimB K (rSum K) mSum := fun H vs ds P r hm Q q => by
  obtain ⟨ns, rfl, hm⟩ := hm
  obtain ⟨p, ws, rfl, a, b⟩ := r.one_list
  obtain rfl := b.ints
  exact ⟨p, ns, rfl, a, q _ _ H hm (Ex.refl H) fun _ => .int _⟩
theorem sb_max : SimB K (rMax K) mMax := fun H vs ds P r hm Q q => by
  obtain ⟨ns, rfl, h0, hm⟩ := hm
  obtain ⟨p, ws, rfl, a, b⟩ := r.one_list
  obtain rfl := b.ints
  exact ⟨p, ns, rfl, a, h0, fun m h1 h2 => q _ _ H (hm m h1 h2) (Ex.refl H) fun _ => .int _⟩
theorem sb_min : SimB K (rMin K) mMin := fun H vs ds P r hm Q q => by
  obtain ⟨ns, rfl, h0, hm⟩ := hm
  obtain ⟨p, ws, rfl, a, b⟩ := r.one_list
  obtain rfl := b.ints
  exact ⟨p, ns, rfl, a, h0, fun m h1 h2 => q _ _ H (hm m h1 h2) (Ex.refl H) fun _ => .int _⟩
theorem sb_all : SimB K (rAll K) mAll := fun H vs ds P r hm Q q => by
  obtain ⟨ns, rfl, hm⟩ := hm
  obtain ⟨p, ws, rfl, a, b⟩ := r.one_list
  obtain rfl := b.bls
  exact ⟨p, ns, rfl, a, q _ _ H hm (Ex.refl H) fun _ => .bl _⟩
theorem sb_any : SimB K (rAny K) mAnyB := fun H vs ds P r hm Q q => by
  obtain ⟨ns, rfl, hm⟩ := hm
  obtain ⟨p, ws, rfl, a, b⟩ := r.one_list
  obtain rfl := b.bls
  exact ⟨p, ns, rfl, a, q _ _ H hm (Ex.refl H) fun _ => .bl _⟩
/-! list(x), tuple(x), sorted(ints) -/
def mListOf (ma : ME) (env : PEnv) (P : Dat → Prop) : Prop := ma env fun x => match itemsD x with
  | some xs => P (.list xs)
  | none => False
theorem mListOf_e (ma : ME) (env : PEnv) (P : Dat → Prop) : mListOf  ma env P = (ma env fun x => match itemsD x with
  | some xs => P (.list xs)
  | none => False) := rfl
theorem items_c {v : V} {d : Dat} {xs : List Dat} (h : RpM .c K H S v d) (e : itemsD d = some xs) : ∃ p ws, v = .ref p ∧ (SqL K H p ws ∨ SqT K H p ws) ∧ RpL K (era H S) ws xs := by
  cases d with
  | list ds =>
    obtain rfl := Option.some.inj e
    obtain ⟨p, ws, rfl, a, b⟩ := h.list (by intro z; cases z)
    exact ⟨p, ws, rfl, .inl a, b⟩
  | tup ds =>
    obtain rfl := Option.some.inj e
    obtain ⟨p, ws, rfl, a, b⟩ := h.tup (by intro z; cases z)
    exact ⟨p, ws, rfl, .inr a, b⟩
  | _ => cases e
theorem sf_listOf (h : SimE K H0 S0 .c ta ma) : SimF K H0 S0 (tCB (fun xs H Q => ∃ p ys, xs = [V.ref p] ∧ (SqL K H p ys ∨ SqT K H p ys) ∧ ∀ l, H l = none → Q (.ref l) (upd H l (.lst ys))) (tCons ta tNil)) (mListOf ma) := fun gs S σ H env P hH hm Q q =>
  h gs S σ H env _ hH hm _ fun x dx H1 hx e1 r1 => by
    split at hx
    · rename_i xs e
      obtain ⟨p, ws, rfl, a, b⟩ := items_c r1 e
      exact ⟨p, ws, rfl, a, fun r hr => q r _ _ hx (fresh_back e1 hr) (e1.trans (Ex.new hr)) ⟨_, upd_same, b.mono (era_new hr)⟩⟩
    · exact hx.elim
theorem sf_listOfR (h : SimE K H0 S0 .c ta ma) : SimF K H0 S0 (tCB (Evl.rListS K) (tCons ta tNil)) (mListOf ma) := sf_listOf h
def mTupOf (ma : ME) (env : PEnv) (P : Dat → Prop) : Prop := ma env fun x => match itemsD x with
  | some xs => P (.tup xs)
  | none => False
theorem mTupOf_e (ma : ME) (env : PEnv) (P : Dat → Prop) : mTupOf  ma env P = (ma env fun x => match itemsD x with
  | some xs => P (.tup xs)
  | none => False) := rfl
/-- tuple(x), x a list or a tuple that is not being built -/
theorem sm_tupOf (h : SimE K H0 S0 .c ta ma) : SimE K H0 S0 m (tCB (fun xs H Q => ∃ p ys, xs = [V.ref p] ∧ ((SqL K H p ys ∧ ∀ l, H l = none → Q (.ref l) (upd H l (.tup ys))) ∨ (SqT K H p ys ∧ Q (.ref p) H))) (tCons ta tNil)) (mTupOf ma) := fun gs S σ H env P hH hm Q q =>
  h gs S σ H env _ hH hm _ fun x dx H1 hx e1 r1 => by
    split at hx
    · rename_i xs e
      cases dx with
      | list ds =>
        obtain rfl := Option.some.inj e
        obtain ⟨p, ws, rfl, a, b⟩ := r1.list (by intro z; cases z)
        exact ⟨p, ws, rfl, .inl ⟨a, fun r hr => q (.ref r) _ _ hx (e1.trans (Ex.new hr)) (RpM.of_s (.tup (st_of (by rw [era_out ((hH.mono e1).new hr)]; exact upd_same)) (b.mono (era_ex (Ex.new hr)))))⟩⟩
      | tup ds =>
        obtain rfl := Option.some.inj e
        rcases r1 with r1 | ⟨p, rfl, r1⟩
        · cases r1 with
          | tup a b => exact ⟨_, _, rfl, .inr ⟨ex_t (era_to H1 S) a, q _ _ H1 hx e1 (RpM.of_s (.tup a b))⟩⟩
        · exact r1.elim
      | _ => cases e
    · exact hx.elim
theorem sm_tupOfR (h : SimE K H0 S0 .c ta ma) : SimE K H0 S0 m (tCB (rTupOf K) (tCons ta tNil)) (mTupOf ma) := sm_tupOf h
def mSorted (ma : ME) (env : PEnv) (P : Dat → Prop) : Prop := ma env fun x => ∃ ns : List Int, x = .list (intsD ns) ∧ ns.length < 64 ∧ ∀ ms : List Int, ms.Perm ns → ms.Pairwise (· ≤ ·) → P (.list (intsD ms))
theorem mSorted_e (ma : ME) (env : PEnv) (P : Dat → Prop) : mSorted ma env P = (ma env fun x => ∃ ns : List Int, x = .list (intsD ns) ∧ ns.length < 64 ∧ ∀ ms : List Int, ms.Perm ns → ms.Pairwise (· ≤ ·) → P (.list (intsD ms))) := rfl
theorem RpL.of_ints (ns : List Int) : RpL K H (ns.map V.int) (intsD ns) := RpL.flat (fun i => .int i) ns
theorem sf_sorted (h : SimE K H0 S0 .c ta ma) : SimF K H0 S0 (tCB (rSorted K) (tCons ta tNil)) (mSorted ma) := fun gs S σ H env P hH hm Q q =>
  h gs S σ H env _ hH hm _ fun x dx H1 hx e1 r1 => by
    obtain ⟨ns, rfl, h0, hx⟩ := hx
    obtain ⟨p, ws, rfl, a, b⟩ := r1.list (by intro z; cases z)
    obtain rfl := b.ints
    exact ⟨p, ns, rfl, a, h0, fun ms r h1 h2 hr => q r _ _ (hx ms h1 h2) (fresh_back e1 hr) (e1.trans (Ex.new hr)) ⟨_, upd_same, RpL.of_ints ms⟩⟩
/-! isinstance(x, T) -/
def tyD : Dat → String
  | .non => "NoneType" | .bl _ => "bool" | .int _ => "int" | .str _ => "str" | .list _ => "list" | .tup _ => "tuple" | .dict _ => "dict"
def isTy (T : String) (d : Dat) : Bool := tyD d == T || (tyD d == "bool" && T == "int")
def mIsi (T : String) (ma : ME) (env : PEnv) (P : Dat → Prop) : Prop := ma env fun x => P (.bl (isTy T x))
theorem mIsi_e (T : String) (ma : ME) (env : PEnv) (P : Dat → Prop) : mIsi T ma env P = (ma env fun x => P (.bl (isTy T x))) := rfl
theorem rp_ty {v : V} {d : Dat} (h : Rp K H v d) : TyX K H v (.type (tyD d)) := by
  cases h with
  | non => exact .base .non
  | bl b => exact .base (.bl b)
  | int i => exact .base (.int i)
  | str x => exact .base (.str x)
  | list a b =>
    rcases a with (a | ⟨o, a⟩) | ⟨o, its, n, a, c, _⟩
    · exact .base (.lst a)
    · exact .base (.frz a)
    · exact .kList a c
  | tup a b => exact tyx_tup a _ (Ex.refl H)
  | dict a b =>
    rcases a with a | ⟨o, a⟩
    · exact .base (.dK a)
    · exact .fDict a
theorem kit_isTy {T : String} (hT : T = "int" ∨ T = "bool" ∨ T = "str" ∨ T = "list" ∨ T = "tuple" ∨ T = "dict") (d : Dat) : PySem.W.kitOne K (.type (tyD d)) (.type T) = some (isTy T d) := by
  unfold isTy
  have : tyD d = "NoneType" ∨ tyD d = "bool" ∨ tyD d = "int" ∨ tyD d = "str" ∨ tyD d = "list" ∨ tyD d = "tuple" ∨ tyD d = "dict" := by cases d <;> simp [tyD]
  rcases this with e | e | e | e | e | e | e <;> rw [e] <;> rcases hT with rfl | rfl | rfl | rfl | rfl | rfl <;> exact kit_ty (by decide +kernel)
theorem sm_isi {T : String} (h : SimE K H0 S0 .w ta ma) (hT : T = "int" ∨ T = "bool" ∨ T = "str" ∨ T = "list" ∨ T = "tuple" ∨ T = "dict" := by decide) : SimE K H0 S0 m (tCB (rIsi K) (tCons ta (tCons (tC (.ty T)) tNil))) (mIsi T ma) := fun gs S σ H env P hH hm Q q =>
  h gs S σ H env _ hH hm _ fun x dx H1 hx e1 r1 => ⟨x, .ty T, _, .type T, _, rfl, .ty T, rp_ty r1.weak, kit_isTy hT dx, q _ _ H1 hx e1 (RpM.of_s (.bl _))⟩
/-! unary -/
def mNeg (ma : ME) (env : PEnv) (P : Dat → Prop) : Prop := ma env fun x => match x with | .int i => P (.int (-i)) | _ => False
theorem mNeg_e (ma : ME) (env : PEnv) (P : Dat → Prop) : mNeg ma env P = (ma env fun x => match x with | .int i => P (.int (-i)) | _ => False) := rfl
theorem sm_neg (h : SimE K H0 S0 .w ta ma) : SimE K H0 S0 m (tUn (rU fun i => .int (-i)) ta) (mNeg ma) := fun gs S σ H env P hH hm Q q =>
  h gs S σ H env _ hH hm _ fun x dx H1 hx e1 r1 => by
    split at hx
    · cases r1
      exact ⟨_, rfl, q _ _ H1 hx e1 (RpM.of_s (.int _))⟩
    · exact hx.elim
/-! tests -/
def mTest (ma : ME) (env : PEnv) (P : Bool → Prop) : Prop := ma env fun x => match x with | .bl b => P b | _ => False
theorem mTest_e (ma : ME) (env : PEnv) (P : Bool → Prop) : mTest ma env P = (ma env fun x => match x with | .bl b => P b | _ => False) := rfl
theorem st_B (h : SimE K H0 S0 .w ta ma) : SimT K H0 S0 (tB ta) (mTest ma) := fun gs S σ H env P hH hm Q q =>
  h gs S σ H env _ hH hm _ fun x dx H1 hx e1 r1 => by
    split at hx
    · cases r1
      exact ⟨_, rfl, q _ H1 hx e1⟩
    · exact hx.elim
theorem st_test (h : SimE K H0 S0 .w ta ma) : SimT K H0 S0 (tTest ta) (mTest ma) := st_B h
def mAndT (mt mu : MT) (env : PEnv) (P : Bool → Prop) : Prop := mt env fun b => if b = true then mu env P else P false
theorem mAndT_e (mt mu : MT) (env : PEnv) (P : Bool → Prop) : mAndT mt mu env P = (mt env fun b => if b = true then mu env P else P false) := rfl
def mOrT (mt mu : MT) (env : PEnv) (P : Bool → Prop) : Prop := mt env fun b => if b = true then P true else mu env P
theorem mOrT_e (mt mu : MT) (env : PEnv) (P : Bool → Prop) : mOrT mt mu env P = (mt env fun b => if b = true then P true else mu env P) := rfl
def mNotT (mt : MT) (env : PEnv) (P : Bool → Prop) : Prop := mt env fun b => P (!b)
theorem mNotT_e (mt : MT) (env : PEnv) (P : Bool → Prop) : mNotT mt env P = (mt env fun b => P (!b)) := rfl
theorem st_and (h1 : SimT K H0 S0 tt mt) (h2 : SimT K H0 S0 tu mu) : SimT K H0 S0 (tAnd tt tu) (mAndT mt mu) := fun gs S σ H env P hH hm Q q =>
  h1 gs S σ H env _ hH hm _ fun b H1 hb e1 => by
    cases b with
    | true => exact h2 gs S σ H1 env P (hH.mono e1) (by simpa using hb) Q fun c H2 hc e2 => q c H2 hc (e1.trans e2)
    | false => exact q false H1 (by simpa using hb) e1
theorem st_or (h1 : SimT K H0 S0 tt mt) (h2 : SimT K H0 S0 tu mu) : SimT K H0 S0 (tOr tt tu) (mOrT mt mu) := fun gs S σ H env P hH hm Q q =>
  h1 gs S σ H env _ hH hm _ fun b H1 hb e1 => by
    cases b with
    | false => exact h2 gs S σ H1 env P (hH.mono e1) (by simpa using hb) Q fun c H2 hc e2 => q c H2 hc (e1.trans e2)
    | true => exact q true H1 (by simpa using hb) e1
theorem st_not (h1 : SimT K H0 S0 tt mt) : SimT K H0 S0 (tNot tt) (mNotT mt) := fun gs S σ H env P hH hm Q q =>
  h1 gs S σ H env _ hH hm _ fun b H1 hb e1 => q _ H1 hb e1
def mYes (e_ : PEnv) (P : Bool → Prop) : Prop := P true
theorem mYes_e (e_ : PEnv) (P : Bool → Prop) : mYes  e_ P = (P true) := rfl
theorem st_yes : SimT K H0 S0 tYes mYes := fun gs S σ H env P hH hm Q q => q true H hm (Ex.refl H)
def mAndV (ma mb : ME) (env : PEnv) (P : Dat → Prop) : Prop := ma env fun x => match x with | .bl b => (if b = true then mb env P else P (.bl false)) | _ => False
theorem mAndV_e (ma mb : ME) (env : PEnv) (P : Dat → Prop) : mAndV ma mb env P = (ma env fun x => match x with | .bl b => (if b = true then mb env P else P (.bl false)) | _ => False) := rfl
def mOrV (ma mb : ME) (env : PEnv) (P : Dat → Prop) : Prop := ma env fun x => match x with | .bl b => (if b = true then P (.bl true) else mb env P) | _ => False
theorem mOrV_e (ma mb : ME) (env : PEnv) (P : Dat → Prop) : mOrV ma mb env P = (ma env fun x => match x with | .bl b => (if b = true then P (.bl true) else mb env P) | _ => False) := rfl
def mNotV (ma : ME) (env : PEnv) (P : Dat → Prop) : Prop := ma env fun x => match x with | .bl b => P (.bl !b) | _ => False
theorem mNotV_e (ma : ME) (env : PEnv) (P : Dat → Prop) : mNotV ma env P = (ma env fun x => match x with | .bl b => P (.bl !b) | _ => False) := rfl
theorem sm_andV (h1 : SimE K H0 S0 .w ta ma) (h2 : SimE K H0 S0 m tb mb) : SimE K H0 S0 m (tAndV ta tb) (mAndV ma mb) := fun gs S σ H env P hH hm Q q =>
  h1 gs S σ H env _ hH hm _ fun x dx H1 hx e1 r1 => by
    split at hx
    · rename_i b
      cases r1
      refine ⟨b, rfl, ?_⟩
      cases b with
      | true => exact h2 gs S σ H1 env P (hH.mono e1) (by simpa using hx) Q fun v d H2 hP e2 r2 => q v d H2 hP (e1.trans e2) r2
      | false => exact q _ _ H1 (by simpa using hx) e1 (RpM.of_s (.bl _))
    · exact hx.elim
theorem sm_orV (h1 : SimE K H0 S0 .w ta ma) (h2 : SimE K H0 S0 m tb mb) : SimE K H0 S0 m (tOrV ta tb) (mOrV ma mb) := fun gs S σ H env P hH hm Q q =>
  h1 gs S σ H env _ hH hm _ fun x dx H1 hx e1 r1 => by
    split at hx
    · rename_i b
      cases r1
      refine ⟨b, rfl, ?_⟩
      cases b with
      | false => exact h2 gs S σ H1 env P (hH.mono e1) (by simpa using hx) Q fun v d H2 hP e2 r2 => q v d H2 hP (e1.trans e2) r2
      | true => exact q _ _ H1 (by simpa using hx) e1 (RpM.of_s (.bl _))
    · exact hx.elim
theorem sm_notV (h1 : SimE K H0 S0 .w ta ma) : SimE K H0 S0 m (tNotV ta) (mNotV ma) := fun gs S σ H env P hH hm Q q =>
  h1 gs S σ H env _ hH hm _ fun x dx H1 hx e1 r1 => by
    split at hx
    · cases r1
      exact ⟨_, rfl, q _ _ H1 hx e1 (RpM.of_s (.bl _))⟩
    · exact hx.elim
def mIfE (mt : MT) (ma mb : ME) (env : PEnv) (P : Dat → Prop) : Prop := mt env fun b => if b = true then ma env P else mb env P
theorem mIfE_e (mt : MT) (ma mb : ME) (env : PEnv) (P : Dat → Prop) : mIfE mt ma mb env P = (mt env fun b => if b = true then ma env P else mb env P) := rfl
theorem sm_if (h : SimT K H0 S0 tt mt) (h1 : SimE K H0 S0 m ta ma) (h2 : SimE K H0 S0 m tb mb) : SimE K H0 S0 m (tIf tt ta tb) (mIfE mt ma mb) := fun gs S σ H env P hH hm Q q =>
  h gs S σ H env _ hH hm _ fun b H1 hb e1 => by
    cases b with
    | true => exact h1 gs S σ H1 env P (hH.mono e1) (by simpa using hb) Q fun v d H2 hP e2 r2 => q v d H2 hP (e1.trans e2) r2
    | false => exact h2 gs S σ H1 env P (hH.mono e1) (by simpa using hb) Q fun v d H2 hP e2 r2 => q v d H2 hP (e1.trans e2) r2
/-- a < b < c -/
def mChain (r r' : Dat → Dat → (Dat → Prop) → Prop) (ma mb mc : ME) (env : PEnv) (P : Dat → Prop) : Prop := ma env fun x => mb env fun y => r x y fun z => match z with
  | .bl k => if k = true then mc env fun u => r' y u P else P (.bl false)
  | _ => False
theorem mChain_e (r r' : Dat → Dat → (Dat → Prop) → Prop) (ma mb mc : ME) (env : PEnv) (P : Dat → Prop) : mChain r r' ma mb mc env P = (ma env fun x => mb env fun y => r x y fun z => match z with
  | .bl k => if k = true then mc env fun u => r' y u P else P (.bl false)
  | _ => False) := rfl
theorem sm_chain {r r' : R2} {mr1 mr2 : Dat → Dat → (Dat → Prop) → Prop} (hr : SimR K r mr1) (hr' : SimR K r' mr2) (h1 : SimE K H0 S0 .w ta ma) (h2 : SimE K H0 S0 .w tb mb) (h3 : SimE K H0 S0 .w tc mc) : SimE K H0 S0 m (tChain r r' ta tb tc) (mChain mr1 mr2 ma mb mc) := fun gs S σ H env P hH hm Q q =>
  h1 gs S σ H env _ hH hm _ fun x dx H1 hx e1 r1 => h2 gs S σ H1 env _ (hH.mono e1) hx _ fun y dy H2 hy e2 r2 => hr H2 x y dx dy _ (r1.weak.mono e2) r2.weak hy _ fun z dz H3 hz e3 rz => by
    split at hz
    · rename_i k
      cases rz H3
      refine ⟨k, rfl, ?_⟩
      have e13 := (e1.trans e2).trans e3
      cases k with
      | true =>
        rw [if_pos rfl] at hz ⊢
        exact h3 gs S σ H3 env _ (hH.mono e13) hz _ fun w dw H4 hw e4 rw' => hr' H4 y w dy dw P (r2.weak.mono (e3.trans e4)) rw'.weak hw Q fun v d H5 hP e5 rv => q v d H5 hP ((e13.trans e4).trans e5) (RpM.of_s (rv _))
      | false =>
        rw [if_neg (by decide)] at hz ⊢
        exact q _ _ H3 hz e13 (RpM.of_s (.bl _))
    · exact hz.elim
/-! truth of a list, a text -/
def truD : Dat → Option Bool
  | .list xs => some (!xs.isEmpty) | .tup xs => some (!xs.isEmpty) | .bl b => some b | .int i => some (i != 0) | _ => none
theorem RpL.empty : ∀ {ws : List V} {ds : List Dat}, RpL K H ws ds → ws.isEmpty = ds.isEmpty
  | _, _, .nil => rfl
  | _, _, .cons _ _ => rfl
def mTru (me : ME) (env : PEnv) (P : Bool → Prop) : Prop := me env fun d => ∃ b, truD d = some b ∧ P b
theorem mTru_e (me : ME) (env : PEnv) (P : Bool → Prop) : mTru me env P = (me env fun d => ∃ b, truD d = some b ∧ P b) := rfl
theorem st_tru (h : SimE K H0 S0 .w te me) : SimT K H0 S0 (fun σ H Q => te σ H fun x H' => ∃ k, TruV K x H' k ∧ Q k H') (mTru me) := fun gs S σ H env P hH hm Q q =>
  h gs S σ H env _ hH hm _ fun x dx H1 hx e1 r1 => by
    obtain ⟨b, hb, hP⟩ := hx
    refine ⟨b, ?_, q b H1 hP e1⟩
    cases r1.weak with
    | list a l =>
      obtain rfl := Option.some.inj hb
      exact .inl ⟨_, a, by rw [l.empty]⟩
    | tup a l =>
      obtain rfl := Option.some.inj hb
      exact .inr (.inl ⟨_, a, by rw [l.empty]⟩)
    | bl b => exact (Option.some.inj hb).symm
    | int i => exact (Option.some.inj hb).symm
    | _ => cases hb
/-! calls of defs -/
abbrev PSp := List Dat → (Dat → Prop) → (Value → Prop) → Prop
def spD (K : PySem.W.Frag) (ps : PSp) : Sp := fun vs H Q E => ∃ (S : List Addr) (ds : List Dat) (P : Dat → Prop) (X : Value → Prop), (∀ q ∈ S, H q ≠ none) ∧ RpL K (era H S) vs ds ∧ ps ds P X ∧ (∀ v d H', P d → Ex H H' → Rp K (era H' S) v d → Q v H') ∧ (∀ x H', X x → Ex H H' → E x none H')
def spF (K : PySem.W.Frag) (ps : PSp) : Sp := fun vs H Q E => ∃ (S : List Addr) (ds : List Dat) (P : Dat → Prop) (X : Value → Prop), (∀ q ∈ S, H q ≠ none) ∧ RpL K (era H S) vs ds ∧ ps ds P X ∧ (∀ p d H', P d → H p = none → Ex H H' → OwnAt K H' (p :: S) p d → Q (.ref p) H') ∧ (∀ x H', X x → Ex H H' → E x none H')
def mCall (ps : PSp) (X : Value → Prop) (ma : MA) (env : PEnv) (P : Dat → Prop) : Prop := ma env fun ds => ps ds P X
theorem mCall_e (ps : PSp) (X : Value → Prop) (ma : MA) (env : PEnv) (P : Dat → Prop) : mCall ps X ma env P = (ma env fun ds => ps ds P X) := rfl
theorem sm_call {ps : PSp} {E : XK} {X : Value → Prop} (hE : ∀ x H', X x → Ex H0 H' → E x none H') (h : SimA K H0 S0 .s tr mr) : SimE K H0 S0 m (tCall (spD K ps) [] E tr) (mCall ps X mr) := fun gs S σ H env P hH hm Q q =>
  h gs S σ H env _ hH hm _ fun vs ds H1 hx e1 r1 => by
    rw [List.append_nil]
    exact ⟨S, ds, P, X, (hH.mono e1).al, r1.strong, hx, fun v d H2 hP e2 r2 => q v d H2 hP (e1.trans e2) (RpM.of_s r2), fun x H2 hx e2 => hE x H2 hx ((hH.mono e1).ex.trans e2)⟩
/-- .. of a def whose answer is flat -/
theorem sm_callW {ps : PSp} {E : XK} {X : Value → Prop} (hE : ∀ x H', X x → Ex H0 H' → E x none H') (h : SimA K H0 S0 .w tr mr) : SimE K H0 S0 m (tCall (spD K ps) [] E tr) (mFlat (mCall ps X mr)) := fun gs S σ H env P hH hm Q q =>
  h gs S σ H env _ hH hm _ fun vs ds H1 hx e1 r1 => by
    rw [List.append_nil]
    exact ⟨[], ds, _, X, (fun q hq => by cases hq), by rw [era_nil]; exact RpMs.weak r1, hx, fun v d H2 hP e2 r2 => q v d H2 hP.2 (e1.trans e2) (RpM.of_s (Rp.flat r2 hP.1)), fun x H2 hx e2 => hE x H2 hx ((hH.mono e1).ex.trans e2)⟩
theorem sf_call {ps : PSp} {E : XK} {X : Value → Prop} (hE : ∀ x H', X x → Ex H0 H' → E x none H') (h : SimA K H0 S0 .s tr mr) : SimF K H0 S0 (tCall (spF K ps) [] E tr) (mCall ps X mr) := fun gs S σ H env P hH hm Q q =>
  h gs S σ H env _ hH hm _ fun vs ds H1 hx e1 r1 => by
    rw [List.append_nil]
    exact ⟨S, ds, P, X, (hH.mono e1).al, r1.strong, hx, fun p d H2 hP hp e2 r2 => q p d H2 hP (fresh_back e1 hp) (e1.trans e2) r2, fun x H2 hx e2 => hE x H2 hx ((hH.mono e1).ex.trans e2)⟩
end
end GR
namespace GR
open PySem PySem.Spec PyProof.Rows L2 Evl
/-! ## walks, targets, comprehensions -/
def WalkOk (K : PySem.W.Frag) (J : It) (xs : List Dat) (g : List (V × Dat)) : Prop := ∀ (S : List Addr) (H : Hp), (∀ q ∈ S, H q ≠ none) → (∀ vd ∈ g, RpM .c K H S vd.1 vd.2) → J.stop xs.length H ∧ ∀ (i : Nat) (d : Dat), xs[i]? = some d → J.go i H ∧ ∀ x H', J.yld i H x H' → Ex H H' ∧ Rp K (era H' S) x d
def SimI (K : PySem.W.Frag) (H0 : Hp) (S0 : List Addr) (m : Md) (wi : TI) (mi : MA) : Prop := ∀ (gs : List (V × Dat)) (S : List Addr) (σ : List (Option V)) (H : Hp) (env : PEnv) (P : List Dat → Prop), Holds K H0 S0 gs S σ H env → mi env P → ∀ R : It → Hp → Prop, (∀ J xs H1 g, P xs → Ex H H1 → (∀ vd ∈ g, RpM m K H1 S vd.1 vd.2) → WalkOk K J xs g → R J H1) → wi σ H R
abbrev MG := Dat → PEnv → (PEnv → Prop) → Prop
abbrev MGs := List Dat → PEnv → (PEnv → Prop) → Prop
def SimG (K : PySem.W.Frag) (H0 : Hp) (S0 : List Addr) (js : List Nat) (g : TG) (mg : MG) : Prop := ∀ (gs : List (V × Dat)) (S : List Addr) (σ : List (Option V)) (H : Hp) (env : PEnv) (P : PEnv → Prop) (v : V) (d : Dat), Holds K H0 S0 gs S σ H env → Rp K (era H S) v d → mg d env P → ∀ Q : L2.St → Hp → Prop, (∀ (σ' : List (Option V)) env', P env' → Holds K H0 S0 gs S σ' H env' → (∀ vs : List Nat, (∀ j ∈ js, j ∈ vs) → wipe σ' vs = wipe σ vs) → Q σ' H) → g v σ H Q
def SimGs (K : PySem.W.Frag) (H0 : Hp) (S0 : List Addr) (js : List Nat) (g : TGs) (mg : MGs) : Prop := ∀ (gs : List (V × Dat)) (S : List Addr) (σ : List (Option V)) (H : Hp) (env : PEnv) (P : PEnv → Prop) (ws : List V) (ds : List Dat), Holds K H0 S0 gs S σ H env → RpL K (era H S) ws ds → mg ds env P → ∀ Q : L2.St → Hp → Prop, (∀ (σ' : List (Option V)) env', P env' → Holds K H0 S0 gs S σ' H env' → (∀ vs : List Nat, (∀ j ∈ js, j ∈ vs) → wipe σ' vs = wipe σ vs) → Q σ' H) → g ws σ H Q
section
variable {K : PySem.W.Frag} {H0 G H H' : Hp} {S0 S : List Addr} {m m1 m2 : Md} {te ta tb tc tx tk tv : TE} {me ma mb mc mx mk mv : ME} {tr ts : TA} {mr ms : MA} {tt tu : TT} {mt mu : MT} {wi : TI} {mi : MA} {g : TG} {mg : MG} {gg : TGs} {mgg : MGs} {gs : List (V × Dat)} {σ : List (Option V)} {env : List (Option Cel)} {js ks : List Nat}
/-! slots -/
theorem get_set {α : Type} {l : List α} {i j : Nat} {x y : α} (h : (l.set i x)[j]? = some y) : (i = j ∧ x = y) ∨ (i ≠ j ∧ l[j]? = some y) := by
  by_cases e : i = j
  · subst e
    by_cases hl : i < l.length
    · rw [List.getElem?_set_self hl] at h
      exact .inl ⟨rfl, Option.some.inj h⟩
    · rw [List.getElem?_eq_none (by rw [List.length_set]; omega)] at h
      cases h
  · rw [List.getElem?_set_ne e] at h
    exact .inr ⟨e, h⟩
theorem set_get {α : Type} {l : List α} {i : Nat} {x y : α} (h : l[i]? = some y) : (l.set i x)[i]? = some x := List.getElem?_set_self (List.getElem?_eq_some_iff.mp h).1
theorem Holds.set_dat (h : Holds K H0 S0 gs S σ H env) {i : Nat} {v : V} {d : Dat} (r : Rp K (era H S) v d) : Holds K H0 S0 gs S (σ.set i (some v)) H (env.set i (some (.dat d))) where
  ex := h.ex
  s0 := h.s0
  sub := h.sub
  old := h.old
  al := h.al
  len := by rw [List.length_set, List.length_set, h.len]
  at_ := fun j c hc => by
    rcases get_set hc with ⟨rfl, rfl⟩ | ⟨ne, hc⟩
    · have hl : i < σ.length := by
        have := (List.getElem?_eq_some_iff.mp hc).1
        rw [List.length_set] at this
        rw [h.len]
        exact this
      exact ⟨some v, List.getElem?_set_self hl, v, rfl, r⟩
    · obtain ⟨x, a, b⟩ := h.at_ j c hc
      exact ⟨x, by rw [List.getElem?_set_ne ne]; exact a, b⟩
  inj := fun a b d' e' p h1 h2 h3 h4 => by
    rcases get_set h1 with ⟨rfl, hh⟩ | ⟨n1, h1⟩
    · cases hh
    · rcases get_set h2 with ⟨rfl, hh⟩ | ⟨n2, h2⟩
      · cases hh
      · rw [List.getElem?_set_ne n1] at h3
        rw [List.getElem?_set_ne n2] at h4
        exact h.inj a b d' e' p h1 h2 h3 h4
  gh := h.gh
theorem Holds.wipe1 (h : Holds K H0 S0 gs S σ H env) (i : Nat) : Holds K H0 S0 gs S (σ.set i none) H (env.set i none) where
  ex := h.ex
  s0 := h.s0
  sub := h.sub
  old := h.old
  al := h.al
  len := by rw [List.length_set, List.length_set, h.len]
  at_ := fun j c hc => by
    rcases get_set hc with ⟨rfl, rfl⟩ | ⟨ne, hc⟩
    · have hl : i < σ.length := by
        have := (List.getElem?_eq_some_iff.mp hc).1
        rw [List.length_set] at this
        rw [h.len]
        exact this
      exact ⟨none, List.getElem?_set_self hl, trivial⟩
    · obtain ⟨x, a, b⟩ := h.at_ j c hc
      exact ⟨x, by rw [List.getElem?_set_ne ne]; exact a, b⟩
  inj := fun a b d' e' p h1 h2 h3 h4 => by
    rcases get_set h1 with ⟨rfl, hh⟩ | ⟨n1, h1⟩
    · cases hh
    · rcases get_set h2 with ⟨rfl, hh⟩ | ⟨n2, h2⟩
      · cases hh
      · rw [List.getElem?_set_ne n1] at h3
        rw [List.getElem?_set_ne n2] at h4
        exact h.inj a b d' e' p h1 h2 h3 h4
  gh := h.gh
def wipeE (env : PEnv) : List Nat → PEnv
  | [] => env
  | v :: vs => (wipeE env vs).set v none
theorem Holds.wipe (h : Holds K H0 S0 gs S σ H env) : ∀ vs : List Nat, Holds K H0 S0 gs S (L2.wipe σ vs) H (wipeE env vs)
  | [] => h
  | v :: vs => (Holds.wipe h vs).wipe1 v
theorem wipe_set {x : Option V} {j : Nat} : ∀ {vs : List Nat}, j ∈ vs → wipe (σ.set j x) vs = wipe σ vs := by
  have key : ∀ (vs : List Nat) (τ : List (Option V)) (i : Nat), (wipe τ vs)[i]? = if i ∈ vs then (if i < τ.length then some none else none) else τ[i]? := by
    intro vs
    induction vs with
    | nil => intro τ i; simp [wipe]
    | cons v vs ih =>
      intro τ i
      show ((wipe τ vs).set v none)[i]? = _
      by_cases e : v = i
      · subst e
        rw [if_pos List.mem_cons_self]
        by_cases hl : v < τ.length
        · rw [List.getElem?_set_self (by rw [wipe_length]; exact hl), if_pos hl]
        · rw [List.getElem?_eq_none (by rw [List.length_set, wipe_length]; omega), if_neg hl]
      · rw [List.getElem?_set_ne e, ih τ i]
        by_cases hi : i ∈ vs
        · rw [if_pos hi, if_pos (List.mem_cons_of_mem _ hi)]
        · rw [if_neg hi, if_neg (fun z => (List.mem_cons.mp z).elim (fun w => e w.symm) hi)]
  intro vs hj
  refine List.ext_getElem? fun i => ?_
  rw [key, key, List.length_set]
  by_cases hi : i ∈ vs
  · rw [if_pos hi, if_pos hi]
  · rw [if_neg hi, if_neg hi, List.getElem?_set_ne (fun e => hi (by rw [← e]; exact hj))]
theorem wipe_wipe (vs : List Nat) : wipe (wipe σ vs) vs = wipe σ vs := by
  have key : ∀ (us ws : List Nat) (τ : List (Option V)), (∀ u ∈ us, u ∈ ws) → wipe (wipe τ us) ws = wipe τ ws := by
    intro us
    induction us with
    | nil => intro ws τ _; rfl
    | cons u us ih =>
      intro ws τ h
      show wipe ((wipe τ us).set u none) ws = _
      rw [wipe_set (h u List.mem_cons_self)]
      exact ih ws τ fun v hv => h v (List.mem_cons_of_mem _ hv)
  exact key vs vs σ fun _ h => h
/-- the heap has grown by p, which is not looked at -/
theorem Holds.push (h : Holds K H0 S0 gs S σ H env) {p : Addr} (hp : H p = none) (e : Ex H H') (hn : H' p ≠ none) : Holds K H0 S0 gs (p :: S) σ H' env := by
  have ee : Ex (era H S) (era H' (p :: S)) := Ex.trans (era_le fun a ha => (List.mem_cons.mp ha).elim (fun z => .inr (z ▸ hp)) .inl) (era_ex e)
  refine ⟨h.ex.trans e, h.s0, fun q hq => List.mem_cons_of_mem _ (h.sub q hq), fun q hq => ?_, fun q hq => ?_, h.len, fun i c hc => ?_, h.inj, fun g hg => (h.gh g hg).mono ee⟩
  · rcases List.mem_cons.mp hq with rfl | hq
    · exact .inr (fresh_back h.ex hp)
    · exact h.old q hq
  · rcases List.mem_cons.mp hq with rfl | hq
    · exact hn
    · exact fun z => h.al q hq (fresh_back e z)
  · obtain ⟨x, a, b⟩ := h.at_ i c hc
    refine ⟨x, a, ?_⟩
    unfold CelAt at b ⊢
    split at b
    · obtain ⟨v, b1, b2⟩ := b
      exact ⟨v, b1, b2.mono ee⟩
    · obtain ⟨q, b1, b2, b3, b4⟩ := b
      exact ⟨q, b1, List.mem_cons_of_mem _ b2, b3, b4.mono e ee⟩
    · trivial
/-! targets -/
def mGN (i : Nat) (d : Dat) (env : PEnv) (P : PEnv → Prop) : Prop := P (env.set i (some (.dat d)))
theorem mGN_e (i : Nat) (d : Dat) (env : PEnv) (P : PEnv → Prop) : mGN i d env P = (P (env.set i (some (.dat d)))) := rfl
theorem sg_name {i : Nat} : SimG K H0 S0 [i] (gName i) (mGN i) := fun gs S σ H env P v d hH r hm Q q => q _ _ hm (hH.set_dat r) fun vs hj => wipe_set (hj i (List.mem_singleton.mpr rfl))
def mGNil (ds : List Dat) (env : PEnv) (P : PEnv → Prop) : Prop := ds = [] ∧ P env
theorem mGNil_e (ds : List Dat) (env : PEnv) (P : PEnv → Prop) : mGNil  ds env P = (ds = [] ∧ P env) := rfl
def mGCons (mg : MG) (mgg : MGs) (ds : List Dat) (env : PEnv) (P : PEnv → Prop) : Prop := match ds with
  | d :: r => mg d env fun env' => mgg r env' P
  | [] => False
theorem mGCons_e (mg : MG) (mgg : MGs) (ds : List Dat) (env : PEnv) (P : PEnv → Prop) : mGCons mg mgg ds env P = (match ds with
  | d :: r => mg d env fun env' => mgg r env' P
  | [] => False) := rfl
def mGT (n : Nat) (mgg : MGs) (d : Dat) (env : PEnv) (P : PEnv → Prop) : Prop := match d with
  | .tup ds => ds.length = n ∧ mgg ds env P
  | _ => False
theorem mGT_e (n : Nat) (mgg : MGs) (d : Dat) (env : PEnv) (P : PEnv → Prop) : mGT n mgg d env P = (match d with
  | .tup ds => ds.length = n ∧ mgg ds env P
  | _ => False) := rfl
theorem sg_nil : SimGs K H0 S0 [] gNil mGNil := fun gs S σ H env P ws ds hH r hm Q q => by
  obtain ⟨rfl, hm⟩ := hm
  cases r
  exact ⟨rfl, q σ env hm hH fun vs _ => rfl⟩
theorem sg_cons (h1 : SimG K H0 S0 js g mg) (h2 : SimGs K H0 S0 ks gg mgg) : SimGs K H0 S0 (js ++ ks) (gCons g gg) (mGCons mg mgg) := fun gs S σ H env P ws ds hH r hm Q q => by
  unfold mGCons at hm
  split at hm
  · cases r with
    | cons hv r =>
      exact ⟨_, _, rfl, h1 gs S σ H env _ _ _ hH hv hm _ fun σ1 env1 hm1 hH1 w1 => h2 gs S σ1 H env1 P _ _ hH1 r hm1 Q fun σ2 env2 hm2 hH2 w2 => q σ2 env2 hm2 hH2 fun vs hj => (w2 vs fun j hj' => hj j (List.mem_append_right _ hj')).trans (w1 vs fun j hj' => hj j (List.mem_append_left _ hj'))⟩
  · exact hm.elim
theorem sg_tup {n : Nat} (h : SimGs K H0 S0 js gg mgg) : SimG K H0 S0 js (gTup K n gg) (mGT n mgg) := fun gs S σ H env P v d hH r hm Q q => by
  unfold mGT at hm
  split at hm
  · cases r with
    | tup a b => exact ⟨_, _, rfl, ex_t (era_to H S) a, by rw [b.len]; exact hm.1, h gs S σ H env P _ _ hH b hm.2 Q q⟩
  · exact hm.elim
/-! walks -/
def mItL (ma : ME) (env : PEnv) (P : List Dat → Prop) : Prop := ma env fun x => match x with | .list ds => P ds | _ => False
theorem mItL_e (ma : ME) (env : PEnv) (P : List Dat → Prop) : mItL ma env P = (ma env fun x => match x with | .list ds => P ds | _ => False) := rfl
def mItT (ma : ME) (env : PEnv) (P : List Dat → Prop) : Prop := ma env fun x => match x with | .tup ds => P ds | _ => False
theorem mItT_e (ma : ME) (env : PEnv) (P : List Dat → Prop) : mItT ma env P = (ma env fun x => match x with | .tup ds => P ds | _ => False) := rfl
theorem walk_l {a : Addr} {ds : List Dat} : WalkOk K (Itl K a) ds [(.ref a, .list ds)] := fun S H hS hg => by
  obtain ⟨p, ws, e, sq, r⟩ := (hg _ (List.mem_singleton.mpr rfl)).list (by intro z; cases z)
  cases e
  refine ⟨⟨ws, sq, by rw [r.len]; exact Nat.le_refl _⟩, fun i d hd => ?_⟩
  obtain ⟨w, hw, _⟩ := r.get' hd
  refine ⟨⟨ws, w, sq, hw⟩, fun x H' y => ?_⟩
  obtain ⟨rfl, y⟩ := y
  obtain ⟨d', hd', rw'⟩ := r.get (y ws sq)
  rw [hd] at hd'
  cases hd'
  exact ⟨Ex.refl _, rw'⟩
theorem walk_t {a : Addr} {ds : List Dat} : WalkOk K (Itt K a) ds [(.ref a, .tup ds)] := fun S H hS hg => by
  obtain ⟨p, ws, e, sq, r⟩ := (hg _ (List.mem_singleton.mpr rfl)).tup (by intro z; cases z)
  cases e
  refine ⟨⟨ws, sq, by rw [r.len]; exact Nat.le_refl _⟩, fun i d hd => ?_⟩
  obtain ⟨w, hw, _⟩ := r.get' hd
  refine ⟨⟨ws, w, sq, hw⟩, fun x H' y => ?_⟩
  obtain ⟨rfl, y⟩ := y
  obtain ⟨d', hd', rw'⟩ := r.get (y ws sq)
  rw [hd] at hd'
  cases hd'
  exact ⟨Ex.refl _, rw'⟩
theorem si_list (hw : m ≠ .w) (h : SimE K H0 S0 m ta ma) : SimI K H0 S0 m (iList K ta) (mItL ma) := fun gs S σ H env P hH hm R q =>
  h gs S σ H env _ hH hm _ fun v d H1 hx e1 r1 => by
    split at hx
    · obtain ⟨p, ws, rfl, sq, _⟩ := r1.list hw
      exact ⟨p, rfl, ⟨ws, sq⟩, q _ _ H1 _ hx e1 (fun vd hvd => by rw [List.mem_singleton.mp hvd]; exact r1) walk_l⟩
    · exact hx.elim
theorem si_tup (hw : m ≠ .w) (h : SimE K H0 S0 m ta ma) : SimI K H0 S0 m (iTup K ta) (mItT ma) := fun gs S σ H env P hH hm R q =>
  h gs S σ H env _ hH hm _ fun v d H1 hx e1 r1 => by
    split at hx
    · obtain ⟨p, ws, rfl, sq, _⟩ := r1.tup hw
      exact ⟨p, rfl, ⟨ws, sq⟩, q _ _ H1 _ hx e1 (fun vd hvd => by rw [List.mem_singleton.mp hvd]; exact r1) walk_t⟩
    · exact hx.elim
theorem si_listS (h : SimE K H0 S0 .s ta ma) : SimI K H0 S0 .s (iList K ta) (mItL ma) := si_list (by intro z; cases z) h
theorem si_listC (h : SimE K H0 S0 .c ta ma) : SimI K H0 S0 .c (iList K ta) (mItL ma) := si_list (by intro z; cases z) h
theorem si_tupS (h : SimE K H0 S0 .s ta ma) : SimI K H0 S0 .s (iTup K ta) (mItT ma) := si_tup (by intro z; cases z) h
theorem si_tupC (h : SimE K H0 S0 .c ta ma) : SimI K H0 S0 .c (iTup K ta) (mItT ma) := si_tup (by intro z; cases z) h
def rngD (lo : Int) (n : Nat) : List Dat := (List.range n).map fun i : Nat => Dat.int (lo + (i : Int))
theorem rngD_len {lo : Int} {n : Nat} : (rngD lo n).length = n := by unfold rngD; rw [List.length_map, List.length_range]
theorem rngD_get {lo : Int} {n i : Nat} {d : Dat} (h : (rngD lo n)[i]? = some d) : i < n ∧ d = .int (lo + (i : Int)) := by
  unfold rngD at h
  rw [List.getElem?_map] at h
  cases e : (List.range n)[i]? with
  | none => rw [e] at h; cases h
  | some k =>
    rw [e] at h
    obtain ⟨a, b⟩ := List.getElem?_eq_some_iff.mp e
    rw [List.length_range] at a
    rw [List.getElem_range] at b
    subst b
    exact ⟨a, (Option.some.inj h).symm⟩
def mRng1 (ma : MA) (env : PEnv) (P : List Dat → Prop) : Prop := ma env fun ds => match ds with
  | [.int j] => (-(2 ^ 62) ≤ j ∧ j < 2 ^ 62) ∧ P (rngD 0 j.toNat)
  | _ => False
theorem mRng1_e (ma : MA) (env : PEnv) (P : List Dat → Prop) : mRng1 ma env P = (ma env fun ds => match ds with
  | [.int j] => (-(2 ^ 62) ≤ j ∧ j < 2 ^ 62) ∧ P (rngD 0 j.toNat)
  | _ => False) := rfl
def mRng2 (ma : MA) (env : PEnv) (P : List Dat → Prop) : Prop := ma env fun ds => match ds with
  | [.int i, .int j] => (-(2 ^ 62) ≤ i ∧ i < 2 ^ 62 ∧ -(2 ^ 62) ≤ j ∧ j < 2 ^ 62) ∧ P (rngD i (j - i).toNat)
  | _ => False
theorem mRng2_e (ma : MA) (env : PEnv) (P : List Dat → Prop) : mRng2 ma env P = (ma env fun ds => match ds with
  | [.int i, .int j] => (-(2 ^ 62) ≤ i ∧ i < 2 ^ 62 ∧ -(2 ^ 62) ≤ j ∧ j < 2 ^ 62) ∧ P (rngD i (j - i).toNat)
  | _ => False) := rfl
theorem walk_r {lo : Int} {n : Nat} : WalkOk K (Itr lo n) (rngD lo n) [] := fun S H hS hg => by
  refine ⟨show n ≤ _ by rw [rngD_len]; exact Nat.le_refl _, fun i d hd => ?_⟩
  obtain ⟨h1, rfl⟩ := rngD_get hd
  refine ⟨h1, fun x H' y => ?_⟩
  obtain ⟨rfl, rfl⟩ := y
  exact ⟨Ex.refl _, .int _⟩
theorem si_rng1 (h : SimA K H0 S0 .w tr mr) : SimI K H0 S0 m (iRng1 tr) (mRng1 mr) := fun gs S σ H env P hH hm R q =>
  h gs S σ H env _ hH hm _ fun vs ds H1 hx e1 r1 => by
    split at hx
    · cases RpMs.weak r1 with
      | cons a b =>
        cases b
        cases a
        exact ⟨_, rfl, hx.1.1, hx.1.2, q _ _ H1 [] hx.2 e1 (fun vd h => by cases h) walk_r⟩
    · exact hx.elim
theorem si_rng2 (h : SimA K H0 S0 .w tr mr) : SimI K H0 S0 m (iRng2 tr) (mRng2 mr) := fun gs S σ H env P hH hm R q =>
  h gs S σ H env _ hH hm _ fun vs ds H1 hx e1 r1 => by
    split at hx
    · cases RpMs.weak r1 with
      | cons a b =>
        cases b with
        | cons a2 b =>
          cases b
          cases a; cases a2
          exact ⟨_, _, rfl, hx.1, q _ _ H1 [] hx.2 e1 (fun vd h => by cases h) walk_r⟩
    · exact hx.elim
def chsD (z : Str) : List Dat := z.cps.toList.map fun c => Dat.str ⟨#[c]⟩
def mItS (ma : ME) (env : PEnv) (P : List Dat → Prop) : Prop := ma env fun x => match x with | .str z => P (chsD z) | _ => False
theorem mItS_e (ma : ME) (env : PEnv) (P : List Dat → Prop) : mItS ma env P = (ma env fun x => match x with | .str z => P (chsD z) | _ => False) := rfl
theorem si_str (h : SimE K H0 S0 .w ta ma) : SimI K H0 S0 m (iStr ta) (mItS ma) := fun gs S σ H env P hH hm R q =>
  h gs S σ H env _ hH hm _ fun v d H1 hx e1 r1 => by
    split at hx
    · cases r1
      rename_i z
      refine ⟨z, rfl, q _ _ H1 [] hx e1 (fun vd h => by cases h) fun S H hS hg => ⟨show z.cps.size ≤ _ by unfold chsD; simp, fun i d hd => ?_⟩⟩
      unfold chsD at hd
      rw [List.getElem?_map] at hd
      cases e : z.cps.toList[i]? with
      | none => rw [e] at hd; cases hd
      | some c =>
        rw [e] at hd
        obtain rfl := Option.some.inj hd
        have hc : z.cps[i]? = some c := by simpa using e
        refine ⟨(Array.getElem?_eq_some_iff.mp hc).1, fun x H' y => ?_⟩
        obtain ⟨rfl, c', hc', rfl⟩ := y
        rw [hc] at hc'
        obtain rfl := Option.some.inj hc'
        exact ⟨Ex.refl _, .str _⟩
    · exact hx.elim
theorem rp_pair {v w : V} {d e : Dat} {T : Addr} (hS : ∀ q ∈ S, H q ≠ none) (hT : H T = none) (h1 : Rp K (era H S) v d) (h2 : Rp K (era H S) w e) : Rp K (era (upd H T (.tup [v, w])) S) (.ref T) (.tup [d, e]) :=
  Rp.tup (st_of (by rw [era_out fun z => hS T z hT]; exact upd_same)) (.cons (h1.mono (era_ex (Ex.new hT))) (.cons (h2.mono (era_ex (Ex.new hT))) .nil))
def enumD (xs : List Dat) : List Dat := xs.mapIdx fun i d => Dat.tup [.int (i : Nat), d]
def mEnum (ma : ME) (env : PEnv) (P : List Dat → Prop) : Prop := ma env fun x => match x with | .list ds => P (enumD ds) | _ => False
theorem mEnum_e (ma : ME) (env : PEnv) (P : List Dat → Prop) : mEnum ma env P = (ma env fun x => match x with | .list ds => P (enumD ds) | _ => False) := rfl
theorem si_enum (hw : m ≠ .w) (h : SimE K H0 S0 m ta ma) : SimI K H0 S0 m (iEnum K (tCons ta tNil)) (mEnum ma) := fun gs S σ H env P hH hm R q =>
  h gs S σ H env _ hH hm _ fun v d H1 hx e1 r1 => by
    split at hx
    · rename_i ds
      obtain ⟨p, ws, rfl, sq, _⟩ := r1.list hw
      refine ⟨p, ws, rfl, sq, q _ _ H1 [(.ref p, .list ds)] hx e1 (fun vd hvd => by rw [List.mem_singleton.mp hvd]; exact r1) fun S H hS hg => ?_⟩
      obtain ⟨p', ws, e, sq, r⟩ := (hg _ (List.mem_singleton.mpr rfl)).list (by intro z; cases z)
      cases e
      refine ⟨⟨ws, sq, by unfold enumD; rw [List.length_mapIdx, r.len]; exact Nat.le_refl _⟩, fun i d hd => ?_⟩
      unfold enumD at hd
      rw [List.getElem?_mapIdx] at hd
      cases e : ds[i]? with
      | none => rw [e] at hd; cases hd
      | some d0 =>
        rw [e] at hd
        obtain rfl := Option.some.inj hd
        obtain ⟨w, hw, _⟩ := r.get' e
        refine ⟨⟨ws, w, sq, hw⟩, fun x H' y => ?_⟩
        obtain ⟨T, x0, rfl, hT, rfl, y⟩ := y
        obtain ⟨d', hd', rw'⟩ := r.get (y ws sq)
        rw [e] at hd'
        cases hd'
        exact ⟨Ex.new hT, rp_pair hS hT (.int _) rw'⟩
    · exact hx.elim
def zipD (xs ys : List Dat) : List Dat := (xs.zip ys).map fun p => Dat.tup [p.1, p.2]
def mZip (ma mb : ME) (env : PEnv) (P : List Dat → Prop) : Prop := ma env fun x => mb env fun y => match itemsD x, itemsD y with
  | some xs, some ys => P (zipD xs ys)
  | _, _ => False
theorem mZip_e (ma mb : ME) (env : PEnv) (P : List Dat → Prop) : mZip ma mb env P = (ma env fun x => mb env fun y => match itemsD x, itemsD y with
  | some xs, some ys => P (zipD xs ys)
  | _, _ => False) := rfl
theorem zipD_get {xs ys : List Dat} {i : Nat} {d : Dat} (h : (zipD xs ys)[i]? = some d) : ∃ x y, xs[i]? = some x ∧ ys[i]? = some y ∧ d = .tup [x, y] := by
  unfold zipD at h
  rw [List.getElem?_map] at h
  cases e : (xs.zip ys)[i]? with
  | none => rw [e] at h; cases h
  | some p =>
    rw [e] at h
    rw [List.getElem?_zip_eq_some] at e
    exact ⟨p.1, p.2, e.1, e.2, (Option.some.inj h).symm⟩
theorem si_zip (hw : m ≠ .w) (h1 : SimE K H0 S0 m ta ma) (h2 : SimE K H0 S0 m tb mb) (hl : ∀ env P, mb env P → True := fun _ _ _ => trivial) : SimI K H0 S0 m (iZip K (tCons ta (tCons tb tNil))) (fun env P => ma env fun x => mb env fun y => match x, y with | .list xs, .list ys => P (zipD xs ys) | _, _ => False) := fun gs S σ H env P hH hm R q =>
  h1 gs S σ H env _ hH hm _ fun v d H1 hx e1 r1 => h2 gs S σ H1 env _ (hH.mono e1) hx _ fun v2 d2 H2 hx2 e2 r2 => by
    split at hx2
    · rename_i xs ys
      obtain ⟨p, ws, rfl, sq, _⟩ := (r1.mono e2).list hw
      obtain ⟨p2, ws2, rfl, sq2, _⟩ := r2.list hw
      refine ⟨p, p2, ws, ws2, rfl, sq, sq2, q _ _ H2 [(.ref p, .list xs), (.ref p2, .list ys)] hx2 (e1.trans e2) (fun vd hvd => ?_) fun S H hS hg => ?_⟩
      · rcases List.mem_cons.mp hvd with rfl | hvd
        · exact r1.mono e2
        · rw [List.mem_singleton.mp hvd]
          exact r2
      obtain ⟨p', ws, e, sq, r⟩ := (hg _ List.mem_cons_self).list (by intro z; cases z)
      cases e
      obtain ⟨p', ws2, e, sq2, r'⟩ := (hg _ (List.mem_cons_of_mem _ (List.mem_singleton.mpr rfl))).list (by intro z; cases z)
      cases e
      refine ⟨⟨ws, ws2, sq, sq2, by unfold zipD; rw [List.length_map, List.length_zip, r.len, r'.len] <;> omega⟩, fun i d hd => ?_⟩
      obtain ⟨x, y, ex, ey, rfl⟩ := zipD_get hd
      obtain ⟨w, hw1, _⟩ := r.get' ex
      obtain ⟨w2, hw2, _⟩ := r'.get' ey
      refine ⟨⟨ws, ws2, w, w2, sq, sq2, hw1, hw2⟩, fun v H' y => ?_⟩
      obtain ⟨T, x0, y0, rfl, hT, rfl, k1, k2⟩ := y
      obtain ⟨d', hd', rw'⟩ := r.get (k1 ws sq)
      rw [ex] at hd'
      cases hd'
      obtain ⟨d', hd', rw2⟩ := r'.get (k2 ws2 sq2)
      rw [ey] at hd'
      cases hd'
      exact ⟨Ex.new hT, rp_pair hS hT rw' rw2⟩
    · exact hx2.elim
theorem si_zipM (hw : m ≠ .w) (h1 : SimE K H0 S0 m ta ma) (h2 : SimE K H0 S0 m tb mb) : SimI K H0 S0 m (iZipM K (tCons ta (tCons tb tNil))) (fun env P => ma env fun x => mb env fun y => match x, y with | .tup xs, .list ys => P (zipD xs ys) | _, _ => False) := fun gs S σ H env P hH hm R q =>
  h1 gs S σ H env _ hH hm _ fun v d H1 hx e1 r1 => h2 gs S σ H1 env _ (hH.mono e1) hx _ fun v2 d2 H2 hx2 e2 r2 => by
    split at hx2
    · rename_i xs ys
      obtain ⟨p, ws, rfl, sq, _⟩ := (r1.mono e2).tup hw
      obtain ⟨p2, ws2, rfl, sq2, _⟩ := r2.list hw
      refine ⟨p, p2, ws, ws2, rfl, sq, sq2, q _ _ H2 [(.ref p, .tup xs), (.ref p2, .list ys)] hx2 (e1.trans e2) (fun vd hvd => ?_) fun S H hS hg => ?_⟩
      · rcases List.mem_cons.mp hvd with rfl | hvd
        · exact r1.mono e2
        · rw [List.mem_singleton.mp hvd]
          exact r2
      obtain ⟨p', ws, e, sq, r⟩ := (hg _ List.mem_cons_self).tup (by intro z; cases z)
      cases e
      obtain ⟨p', ws2, e, sq2, r'⟩ := (hg _ (List.mem_cons_of_mem _ (List.mem_singleton.mpr rfl))).list (by intro z; cases z)
      cases e
      refine ⟨⟨ws, ws2, sq, sq2, by unfold zipD; rw [List.length_map, List.length_zip, r.len, r'.len] <;> omega⟩, fun i d hd => ?_⟩
      obtain ⟨x, y, ex, ey, rfl⟩ := zipD_get hd
      obtain ⟨w, hw1, _⟩ := r.get' ex
      obtain ⟨w2, hw2, _⟩ := r'.get' ey
      refine ⟨⟨ws, ws2, w, w2, sq, sq2, hw1, hw2⟩, fun v H' y => ?_⟩
      obtain ⟨T, x0, y0, rfl, hT, rfl, k1, k2⟩ := y
      obtain ⟨d', hd', rw'⟩ := r.get (k1 ws sq)
      rw [ex] at hd'
      cases hd'
      obtain ⟨d', hd', rw2⟩ := r'.get (k2 ws2 sq2)
      rw [ey] at hd'
      cases hd'
      exact ⟨Ex.new hT, rp_pair hS hT rw' rw2⟩
    · exact hx2.elim
/-! comprehensions -/
/-- one turn of a comprehension -/
def CStep (mg : MG) (mt : MT) (me : ME) (env : PEnv) (d : Dat) (Py : Dat → Prop) (N : Prop) : Prop := mg d env fun env2 => mt env2 fun b => if b = true then me env2 Py else N
def DStep (mg : MG) (mt : MT) (mk mv : ME) (env : PEnv) (d : Dat) (Pz : Key → Dat → Prop) (N : Prop) : Prop := mg d env fun env2 => mt env2 fun b => if b = true then mk env2 fun k => mv env2 fun z => ∃ key, keyD k = some key ∧ Pz key z else N
def mLc (mi : MA) (mg : MG) (mt : MT) (me : ME) (vs : List Nat) (env : PEnv) (P : Dat → Prop) : Prop := mi env fun xs => xs.length ≤ 50000 ∧
  ((∃ Inv : Nat → List Dat → Prop, Inv 0 [] ∧
    (∀ (i : Nat) (d : Dat) (acc : List Dat), xs[i]? = some d → Inv i acc → CStep mg mt me (wipeE env vs) d (fun y => Inv (i + 1) (acc ++ [y])) (Inv (i + 1) acc)) ∧
    ∀ acc, Inv xs.length acc → P (.list acc)) ∨
  (∃ f : Nat → Dat → Option Dat, (∀ (i : Nat) (d : Dat), xs[i]? = some d → CStep mg mt me (wipeE env vs) d (fun y => f i d = some y) (f i d = none)) ∧ P (.list ((xs.mapIdx f).filterMap id))))
theorem mLc_e (mi : MA) (mg : MG) (mt : MT) (me : ME) (vs : List Nat) (env : PEnv) (P : Dat → Prop) : mLc mi mg mt me vs env P = (mi env fun xs => xs.length ≤ 50000 ∧
  ((∃ Inv : Nat → List Dat → Prop, Inv 0 [] ∧
    (∀ (i : Nat) (d : Dat) (acc : List Dat), xs[i]? = some d → Inv i acc → CStep mg mt me (wipeE env vs) d (fun y => Inv (i + 1) (acc ++ [y])) (Inv (i + 1) acc)) ∧
    ∀ acc, Inv xs.length acc → P (.list acc)) ∨
  (∃ f : Nat → Dat → Option Dat, (∀ (i : Nat) (d : Dat), xs[i]? = some d → CStep mg mt me (wipeE env vs) d (fun y => f i d = some y) (f i d = none)) ∧ P (.list ((xs.mapIdx f).filterMap id))))) := rfl
theorem RpM.push {v : V} {d : Dat} (h : RpM .c K H S v d) {p : Addr} (hp : H p = none) (e : Ex H H') : RpM .c K H' (p :: S) v d := by
  have ee : Ex (era H S) (era H' (p :: S)) := Ex.trans (era_le fun a ha => (List.mem_cons.mp ha).elim (fun z => .inr (z ▸ hp)) .inl) (era_ex e)
  rcases h with h | ⟨q, rfl, h⟩
  · exact .inl (h.mono ee)
  · exact .inr ⟨q, rfl, h.mono e ee⟩
theorem sf_lc {vs : List Nat} (hj : ∀ j ∈ js, j ∈ vs) (h : SimI K H0 S0 .c wi mi) (hg : SimG K H0 S0 js g mg) (ht : SimT K H0 S0 tt mt) (he : SimE K H0 S0 .s te me) : SimF K H0 S0 (tLc wi g tt te vs) (mLc mi mg mt me vs) := fun gs S σ H env P hH hm Q q =>
  h gs S σ H env _ hH hm _ fun J xs H1 gg hx e1 hgg hw Dl hD => by
    obtain ⟨hlen, hx⟩ := hx
    have hH1 := hH.mono e1
    have core : ∀ Inv : Nat → List Dat → Prop, Inv 0 [] → (∀ (i : Nat) (d : Dat) (acc : List Dat), xs[i]? = some d → Inv i acc → ∃ Pg : PEnv → Prop, mg d (wipeE env vs) Pg ∧ ∀ env2, Pg env2 → ∃ Pt : Bool → Prop, mt env2 Pt ∧ ∀ b, Pt b → (b = true → ∃ Pe : Dat → Prop, me env2 Pe ∧ ∀ y, Pe y → Inv (i + 1) (acc ++ [y])) ∧ (b = false → Inv (i + 1) acc)) → (∀ acc, Inv xs.length acc → P (.list acc)) →
        ∃ W : Nat → Nat → Hp → Prop, (∃ m, W 0 m (upd H1 Dl (.lst []))) ∧ ∀ i m H, W i m H → (J.stop i H ∧ Q (.ref Dl) H) ∨ (J.go i H ∧ ∃ Nx : Hp → Prop, (∀ H', Nx H' → ∃ m', m' < m ∧ W (i + 1) m' H') ∧ ∀ x H', J.yld i H x H' → g x (wipe σ vs) H' fun σ2 H2 => wipe σ2 vs = wipe σ vs ∧ tt σ2 H2 fun b H3 =>
          if b = true then te σ2 H3 fun y H4 => ∃ acc, H4 Dl = some (.lst acc) ∧ acc.length < sizeLine ∧ Nx (upd H4 Dl (.lst (acc ++ [y]))) else Nx H3) := by
      intro Inv i0 istep iend
      refine ⟨fun i m Hh => m = xs.length - i ∧ i ≤ xs.length ∧ Ex H1 Hh ∧ ∃ acc ws, Hh Dl = some (.lst ws) ∧ RpL K (era Hh (Dl :: S)) ws acc ∧ acc.length ≤ i ∧ Inv i acc, ⟨xs.length, rfl, Nat.zero_le _, Ex.new hD, [], [], upd_same, .nil, Nat.le_refl _, i0⟩, ?_⟩
      rintro i m Hh ⟨rfl, hi, eh, acc, ws, hDl, hr, hal, hI⟩
      have hHh := hH1.push hD eh (by rw [hDl]; intro z; cases z)
      obtain ⟨w1, w2⟩ := hw (Dl :: S) Hh hHh.al fun vd hvd => (hgg vd hvd).push hD eh
      by_cases hlt : i < xs.length
      · have hd : xs[i]? = some (xs[i]'hlt) := List.getElem?_eq_getElem hlt
        generalize xs[i]'hlt = d at hd
        obtain ⟨go, yl⟩ := w2 i d hd
        refine .inr ⟨go, fun Hn => i < xs.length ∧ Ex H1 Hn ∧ ∃ acc ws, Hn Dl = some (.lst ws) ∧ RpL K (era Hn (Dl :: S)) ws acc ∧ acc.length ≤ i + 1 ∧ Inv (i + 1) acc, fun Hn ⟨a, b, c⟩ => ⟨_, show xs.length - (i + 1) < xs.length - i by omega, rfl, a, b, c⟩, fun x H' y => ?_⟩
        obtain ⟨e2, rx⟩ := yl x H' y
        have hH2 := (hHh.mono e2).wipe vs
        obtain ⟨Pg, hpg, kpg⟩ := istep i d acc hd hI
        refine hg gs (Dl :: S) _ H' _ _ x d hH2 rx hpg _ fun σ2 env2 hm2 hH3 hw2 => ⟨?_, ?_⟩
        · exact (hw2 vs hj).trans (wipe_wipe vs)
        · obtain ⟨Pt, hpt, kpt⟩ := kpg env2 hm2
          refine ht gs (Dl :: S) σ2 H' env2 _ hH3 hpt _ fun b H3 hb e3 => ?_
          obtain ⟨k1, k2⟩ := kpt b hb
          cases b with
          | true =>
            rw [if_pos rfl]
            obtain ⟨Pe, hpe, kpe⟩ := k1 rfl
            refine he gs (Dl :: S) σ2 H3 env2 _ (hH3.mono e3) hpe _ fun v y H4 hy e4 rv => ?_
            have e24 : Ex Hh H4 := (e2.trans e3).trans e4
            refine ⟨ws, e24 _ _ hDl, sz_lt (by rw [hr.len]; omega), hlt, Ex.mut (eh.trans e24) hD, acc ++ [y], ws ++ [v], upd_same, ?_, by rw [List.length_append, List.length_singleton]; omega, kpe y hy⟩
            rw [era_upd List.mem_cons_self]
            exact (hr.mono (era_ex e24)).append (.cons rv .nil)
          | false =>
            rw [if_neg (by decide)]
            have e23 : Ex Hh H3 := e2.trans e3
            exact ⟨hlt, eh.trans e23, acc, ws, e23 _ _ hDl, hr.mono (era_ex e23), by omega, k2 rfl⟩
      · have hin : i = xs.length := by omega
        subst hin
        exact .inl ⟨w1, q Dl (.list acc) Hh (iend acc hI) (fresh_back e1 hD) (e1.trans eh) ⟨ws, hDl, hr⟩⟩
    rcases hx with ⟨Inv, i0, istep, iend⟩ | ⟨f, hf, hP⟩
    · exact core Inv i0 (fun i d acc hd hI => ⟨_, istep i d acc hd hI, fun env2 h2 => ⟨_, h2, fun b hb => ⟨fun e => by
        rw [if_pos e] at hb
        exact ⟨_, hb, fun y hy => hy⟩, fun e => by
        rw [if_neg (by rw [e]; decide)] at hb
        exact hb⟩⟩⟩) iend
    · refine core (fun i acc => acc = ((xs.take i).mapIdx f).filterMap id) (by simp) (fun i d acc hd hI => ⟨_, hf i d hd, fun env2 h2 => ⟨_, h2, fun b hb => ?_⟩⟩) (fun acc ha => ?_)
      · have hlt := (List.getElem?_eq_some_iff.mp hd).1
        have ht : xs.take (i + 1) = xs.take i ++ [d] := by rw [List.take_add_one, hd]; rfl
        have hl2 : (xs.take i).length = i := by rw [List.length_take]; omega
        refine ⟨fun e => ?_, fun e => ?_⟩
        · rw [if_pos e] at hb
          refine ⟨_, hb, fun y hy => ?_⟩
          show acc ++ [y] = ((xs.take (i + 1)).mapIdx f).filterMap id
          rw [show acc = _ from hI, ht, List.mapIdx_append, List.filterMap_append, hl2]
          simp [hy]
        · rw [if_neg (by rw [e]; decide)] at hb
          show acc = ((xs.take (i + 1)).mapIdx f).filterMap id
          rw [show acc = _ from hI, ht, List.mapIdx_append, List.filterMap_append, hl2]
          simp [hb]
      · have ha' : acc = ((xs.take xs.length).mapIdx f).filterMap id := ha
        rw [List.take_length] at ha'
        rw [ha']
        exact hP
def mDc (mi : MA) (mg : MG) (mt : MT) (mk mv : ME) (vs : List Nat) (env : PEnv) (P : Dat → Prop) : Prop := mi env fun xs => xs.length ≤ 50000 ∧ ∃ Inv : Nat → List (Key × Dat) → Prop, Inv 0 [] ∧
  (∀ (i : Nat) (d : Dat) (acc : List (Key × Dat)), xs[i]? = some d → Inv i acc → DStep mg mt mk mv (wipeE env vs) d (fun key z => Inv (i + 1) (putG acc key z)) (Inv (i + 1) acc)) ∧
  ∀ acc, Inv xs.length acc → P (.dict acc)
theorem mDc_e (mi : MA) (mg : MG) (mt : MT) (mk mv : ME) (vs : List Nat) (env : PEnv) (P : Dat → Prop) : mDc mi mg mt mk mv vs env P = (mi env fun xs => xs.length ≤ 50000 ∧ ∃ Inv : Nat → List (Key × Dat) → Prop, Inv 0 [] ∧
  (∀ (i : Nat) (d : Dat) (acc : List (Key × Dat)), xs[i]? = some d → Inv i acc → DStep mg mt mk mv (wipeE env vs) d (fun key z => Inv (i + 1) (putG acc key z)) (Inv (i + 1) acc)) ∧
  ∀ acc, Inv xs.length acc → P (.dict acc)) := rfl
theorem putG_len (es : List (Key × Dat)) (k : Key) (d : Dat) : (putG es k d).length ≤ es.length + 1 := by
  unfold putG
  split
  · rw [List.length_map]; omega
  · rw [List.length_append, List.length_singleton]; omega
theorem sf_dc {vs : List Nat} (hj : ∀ j ∈ js, j ∈ vs) (h : SimI K H0 S0 .c wi mi) (hg : SimG K H0 S0 js g mg) (ht : SimT K H0 S0 tt mt) (hk : SimE K H0 S0 .w tk mk) (he : SimE K H0 S0 .s tv mv) : SimF K H0 S0 (tDc wi g tt tk tv vs) (mDc mi mg mt mk mv vs) := fun gs S σ H env P hH hm Q q =>
  h gs S σ H env _ hH hm _ fun J xs H1 gg hx e1 hgg hw Dl hD => by
    obtain ⟨hlen, Inv, i0, istep, iend⟩ := hx
    have hH1 := hH.mono e1
    refine ⟨fun i m Hh => m = xs.length - i ∧ i ≤ xs.length ∧ Ex H1 Hh ∧ ∃ acc ws, Hh Dl = some (.dK ws) ∧ RpK K (era Hh (Dl :: S)) ws acc ∧ acc.length ≤ i ∧ Inv i acc, ⟨xs.length, rfl, Nat.zero_le _, Ex.new hD, [], [], upd_same, .nil, Nat.le_refl _, i0⟩, ?_⟩
    rintro i m Hh ⟨rfl, hi, eh, acc, ws, hDl, hr, hal, hI⟩
    have hHh := hH1.push hD eh (by rw [hDl]; intro z; cases z)
    obtain ⟨w1, w2⟩ := hw (Dl :: S) Hh hHh.al fun vd hvd => (hgg vd hvd).push hD eh
    by_cases hlt : i < xs.length
    · have hd : xs[i]? = some (xs[i]'hlt) := List.getElem?_eq_getElem hlt
      generalize xs[i]'hlt = d at hd
      obtain ⟨go, yl⟩ := w2 i d hd
      refine .inr ⟨go, fun Hn => i < xs.length ∧ Ex H1 Hn ∧ ∃ acc ws, Hn Dl = some (.dK ws) ∧ RpK K (era Hn (Dl :: S)) ws acc ∧ acc.length ≤ i + 1 ∧ Inv (i + 1) acc, fun Hn ⟨a, b, c⟩ => ⟨_, show xs.length - (i + 1) < xs.length - i by omega, rfl, a, b, c⟩, fun x H' y => ?_⟩
      obtain ⟨e2, rx⟩ := yl x H' y
      have hH2 := (hHh.mono e2).wipe vs
      refine hg gs (Dl :: S) _ H' _ _ x d hH2 rx (istep i d acc hd hI) _ fun σ2 env2 hm2 hH3 hw2 => ⟨?_, ?_⟩
      · exact (hw2 vs hj).trans (wipe_wipe vs)
      · refine ht gs (Dl :: S) σ2 H' env2 _ hH3 hm2 _ fun b H3 hb e3 => ?_
        cases b with
        | true =>
          rw [if_pos rfl]
          refine hk gs (Dl :: S) σ2 H3 env2 _ (hH3.mono e3) (by simpa using hb) _ fun v y H4 hy e4 rk => ?_
          refine he gs (Dl :: S) σ2 H4 env2 _ ((hH3.mono e3).mono e4) hy _ fun v2 z H5 hz e5 rz => ?_
          obtain ⟨key, hkey, hz⟩ := hz
          have e25 : Ex Hh H5 := ((e2.trans e3).trans e4).trans e5
          refine ⟨ws, key, keyD_kV rk.weak hkey, e25 _ _ hDl, sz_lt (by rw [hr.len]; omega), hlt, Ex.mut (eh.trans e25) hD, putG acc key z, _, upd_same, ?_, Nat.le_trans (putG_len _ _ _) (by omega), hz⟩
          rw [era_upd List.mem_cons_self]
          exact RpK.put rz (hr.mono (era_ex e25))
        | false =>
          rw [if_neg (by decide)]
          have e23 : Ex Hh H3 := e2.trans e3
          exact ⟨hlt, eh.trans e23, acc, ws, e23 _ _ hDl, hr.mono (era_ex e23), by omega, by simpa using hb⟩
    · have hin : i = xs.length := by omega
      subst hin
      exact .inl ⟨w1, q Dl (.dict acc) Hh (iend acc hI) (fresh_back e1 hD) (e1.trans eh) ⟨ws, hDl, hr⟩⟩
end
end GR
namespace GR
open PySem PySem.Spec PyProof.Rows L2 Evl
/-! ## statements -/
structure MEnds where
  nx : PEnv → Prop
  rt : Dat → Prop
  bk : PEnv → Prop := fun _ => False
  ct : PEnv → Prop := fun _ => False
abbrev MS := MEnds → PEnv → Prop
/-- what is returned: fr: a new list or dict, else any data -/
def RetM (fr : Bool) (K : PySem.W.Frag) (H0 : Hp) (S0 : List Addr) (H : Hp) (v : V) (d : Dat) : Prop := if fr = true then ∃ p, v = .ref p ∧ H0 p = none ∧ OwnAt K H (p :: S0) p d else Rp K (era H S0) v d
structure EndsOk (K : PySem.W.Frag) (H0 : Hp) (S0 : List Addr) (fr : Bool) (gs : List (V × Dat)) (D : Ends) (M : MEnds) : Prop where
  nx : ∀ S σ H env, Holds K H0 S0 gs S σ H env → M.nx env → D.nx σ H
  bk : ∀ S σ H env, Holds K H0 S0 gs S σ H env → M.bk env → D.bk σ H
  ct : ∀ S σ H env, Holds K H0 S0 gs S σ H env → M.ct env → D.ct σ H
  rt : ∀ v d H, Ex H0 H → RetM fr K H0 S0 H v d → M.rt d → D.rt v H
def SimS (K : PySem.W.Frag) (H0 : Hp) (S0 : List Addr) (fr : Bool) (tu : TS) (mu : MS) : Prop := ∀ (gs : List (V × Dat)) (S : List Addr) (σ : List (Option V)) (H : Hp) (env : PEnv) (D : Ends) (M : MEnds), Holds K H0 S0 gs S σ H env → EndsOk K H0 S0 fr gs D M → mu M env → tu D σ H
section
variable {K : PySem.W.Frag} {H0 G H H' : Hp} {S0 S : List Addr} {fr : Bool} {m m1 m2 : Md} {te ta tb tc tx tk tv : TE} {me ma mb mc mx mk mv : ME} {tr ts : TA} {mr ms : MA} {tt : TT} {mt : MT} {wi : TI} {mi : MA} {g : TG} {mg : MG} {gs : List (V × Dat)} {σ : List (Option V)} {env : List (Option Cel)} {js ks : List Nat} {tu tw : TS} {mu mw : MS}
theorem EndsOk.with_nx {D : Ends} {M : MEnds} {f : L2.St → Hp → Prop} {n : PEnv → Prop} (h : EndsOk K H0 S0 fr gs D M) (k : ∀ S (σ : List (Option V)) H env, Holds K H0 S0 gs S σ H env → n env → f σ H) : EndsOk K H0 S0 fr gs { D with nx := f } { M with nx := n } := ⟨k, h.bk, h.ct, h.rt⟩
def mNext (M : MEnds) (env : PEnv) : Prop := M.nx env
theorem mNext_e (M : MEnds) (env : PEnv) : mNext  M env = (M.nx env) := rfl
def mBrk (M : MEnds) (env : PEnv) : Prop := M.bk env
theorem mBrk_e (M : MEnds) (env : PEnv) : mBrk  M env = (M.bk env) := rfl
def mCnt (M : MEnds) (env : PEnv) : Prop := M.ct env
theorem mCnt_e (M : MEnds) (env : PEnv) : mCnt  M env = (M.ct env) := rfl
theorem ss_next : SimS K H0 S0 fr tNext mNext := fun gs S σ H env D M hH hE hm => hE.nx S σ H env hH hm
theorem ss_brk : SimS K H0 S0 fr tBreak mBrk := fun gs S σ H env D M hH hE hm => hE.bk S σ H env hH hm
theorem ss_cnt : SimS K H0 S0 fr tCont mCnt := fun gs S σ H env D M hH hE hm => hE.ct S σ H env hH hm
def mSeq (mu mw : MS) (M : MEnds) (env : PEnv) : Prop := mu { M with nx := mw M } env
theorem mSeq_e (mu mw : MS) (M : MEnds) (env : PEnv) : mSeq mu mw M env = (mu { M with nx := mw M } env) := rfl
theorem ss_seq (h1 : SimS K H0 S0 fr tu mu) (h2 : SimS K H0 S0 fr tw mw) : SimS K H0 S0 fr (tSeq tu tw) (mSeq mu mw) := fun gs S σ H env D M hH hE hm =>
  h1 gs S σ H env _ _ hH (hE.with_nx fun S σ H env hH hm => h2 gs S σ H env D M hH hE hm) hm
/-- what follows, not opened yet -/
def Aft (n : PEnv → Prop) (env : PEnv) : Prop := n env
/-- the environment, to be seen -/
def Hv (_env : PEnv) : Prop := True
def mCut (mu mw : MS) (M : MEnds) (env : PEnv) : Prop := ∃ J : PEnv → Prop, Hv env ∧ mu { M with nx := J } env ∧ ∀ env1, J env1 → Aft (mw M) env1
theorem mCut_e (mu mw : MS) (M : MEnds) (env : PEnv) : mCut mu mw M env = (∃ J : PEnv → Prop, Hv env ∧ mu { M with nx := J } env ∧ ∀ env1, J env1 → Aft (mw M) env1) := rfl
theorem ss_cut (h1 : SimS K H0 S0 fr tu mu) (h2 : SimS K H0 S0 fr tw mw) : SimS K H0 S0 fr (Evl.tCut tu tw) (mCut mu mw) := fun gs S σ H env D M hH hE hm => by
  obtain ⟨J, _, hm, hk⟩ := hm
  exact ⟨fun σ H => ∃ S env, Holds K H0 S0 gs S σ H env ∧ J env, h1 gs S σ H env _ _ hH (hE.with_nx fun S σ H env hH hm => ⟨S, env, hH, hm⟩) hm, fun σ' H' ⟨S, env, hH, hm⟩ => h2 gs S σ' H' env D M hH hE (hk env hm)⟩
def mIf (mt : MT) (mu mw : MS) (M : MEnds) (env : PEnv) : Prop := mt env fun b => if b = true then mu M env else mw M env
theorem mIf_e (mt : MT) (mu mw : MS) (M : MEnds) (env : PEnv) : mIf mt mu mw M env = (mt env fun b => if b = true then mu M env else mw M env) := rfl
theorem ss_if (h : SimT K H0 S0 tt mt) (h1 : SimS K H0 S0 fr tu mu) (h2 : SimS K H0 S0 fr tw mw) : SimS K H0 S0 fr (tIfS tt tu tw) (mIf mt mu mw) := fun gs S σ H env D M hH hE hm =>
  h gs S σ H env _ hH hm _ fun b H1 hb e1 => by
    cases b with
    | true => exact h1 gs S σ H1 env D M (hH.mono e1) hE (by simpa using hb)
    | false => exact h2 gs S σ H1 env D M (hH.mono e1) hE (by simpa using hb)
/-! assignment -/
def mAsg (me : ME) (mg : MG) (M : MEnds) (env : PEnv) : Prop := me env fun d => mg d env M.nx
theorem mAsg_e (me : ME) (mg : MG) (M : MEnds) (env : PEnv) : mAsg me mg M env = (me env fun d => mg d env M.nx) := rfl
theorem ss_asg (h : SimE K H0 S0 .s te me) (hg : SimG K H0 S0 js g mg) : SimS K H0 S0 fr (tAsg te g) (mAsg me mg) := fun gs S σ H env D M hH hE hm =>
  h gs S σ H env _ hH hm _ fun v d H1 hd e1 r1 => hg gs S σ H1 env _ v d (hH.mono e1) r1 hd _ fun σ' env' hn hH' _ => hE.nx S σ' H1 env' hH' hn
/-- a new list or dict, to be built on -/
def mAsgF (i : Nat) (me : ME) (M : MEnds) (env : PEnv) : Prop := me env fun d => M.nx (env.set i (some (.own d)))
theorem mAsgF_e (i : Nat) (me : ME) (M : MEnds) (env : PEnv) : mAsgF i me M env = (me env fun d => M.nx (env.set i (some (.own d)))) := rfl
theorem Holds.set_own (h : Holds K H0 S0 gs S σ H env) {i : Nat} {p : Addr} {d : Dat} (hp : H p = none) (e : Ex H H') (r : OwnAt K H' (p :: S) p d) : Holds K H0 S0 gs (p :: S) (σ.set i (some (.ref p))) H' (env.set i (some (.own d))) := by
  have hn : H' p ≠ none := by
    unfold OwnAt at r
    split at r
    · obtain ⟨ws, a, _⟩ := r
      rw [a]; intro z; cases z
    · obtain ⟨ws, a, _⟩ := r
      rw [a]; intro z; cases z
    · exact r.elim
  have h2 := h.push hp e hn
  have h0 : H0 p = none := fresh_back h.ex hp
  have clash : ∀ (j : Nat) (d' : Dat), env[j]? = some (some (.own d')) → σ[j]? = some (some (.ref p)) → False := fun j d' h1 h3 => by
    obtain ⟨x, a, q, b, c, _⟩ := h.at_ j _ h1
    rw [a] at h3
    rw [b] at h3
    cases h3
    exact h.al p c hp
  refine ⟨h2.ex, h2.s0, h2.sub, h2.old, h2.al, by rw [List.length_set, List.length_set, h2.len], fun j c hc => ?_, fun a b d' e' q h1 h3 h4 h5 => ?_, h2.gh⟩
  · rcases get_set hc with ⟨rfl, rfl⟩ | ⟨ne, hc⟩
    · have hl : i < σ.length := by
        have := (List.getElem?_eq_some_iff.mp hc).1
        rw [List.length_set] at this
        rw [h.len]
        exact this
      exact ⟨_, List.getElem?_set_self hl, p, rfl, List.mem_cons_self, h0, r⟩
    · obtain ⟨x, a, b⟩ := h2.at_ j c hc
      exact ⟨x, by rw [List.getElem?_set_ne ne]; exact a, b⟩
  · rcases get_set h1 with ⟨e1, _⟩ | ⟨n1, h1⟩
    · rcases get_set h3 with ⟨e2, _⟩ | ⟨n2, h3⟩
      · rw [← e1, ← e2]
      · subst e1
        rw [List.getElem?_set_ne n2] at h5
        rcases get_set h4 with ⟨_, hq⟩ | ⟨n3, _⟩
        · cases hq
          exact (clash _ _ h3 h5).elim
        · exact absurd rfl n3
    · rw [List.getElem?_set_ne n1] at h4
      rcases get_set h3 with ⟨e2, _⟩ | ⟨n2, h3⟩
      · subst e2
        rcases get_set h5 with ⟨_, hq⟩ | ⟨n3, _⟩
        · cases hq
          exact (clash _ _ h1 h4).elim
        · exact absurd rfl n3
      · rw [List.getElem?_set_ne n2] at h5
        exact h.inj a b d' e' q h1 h3 h4 h5
theorem ss_asgF {i : Nat} (h : SimF K H0 S0 te me) : SimS K H0 S0 fr (tAsg te (gName i)) (mAsgF i me) := fun gs S σ H env D M hH hE hm =>
  h gs S σ H env _ hH hm _ fun p d H1 hd hp e1 r1 => hE.nx _ _ H1 _ (hH.set_own hp e1 r1) hd
def mAug (i : Nat) (f : Int → Int → Int) (me : ME) (M : MEnds) (env : PEnv) : Prop := match env[i]? with
  | some (some (.dat (.int a))) => me env fun d => match d with | .int b => M.nx (env.set i (some (.dat (.int (f a b))))) | _ => False
  | _ => False
theorem mAug_e (i : Nat) (f : Int → Int → Int) (me : ME) (M : MEnds) (env : PEnv) : mAug i f me M env = (match env[i]? with
  | some (some (.dat (.int a))) => me env fun d => match d with | .int b => M.nx (env.set i (some (.dat (.int (f a b))))) | _ => False
  | _ => False) := rfl
theorem ss_aug {i : Nat} {f : Int → Int → Int} (h : SimE K H0 S0 .w te me) : SimS K H0 S0 fr (tAug i te (ipI f)) (mAug i f me) := fun gs S σ H env D M hH hE hm => by
  unfold mAug at hm
  split at hm
  · rename_i a e
    obtain ⟨x, hx, v, rfl, r⟩ := hH.at_ i _ e
    cases r
    refine ⟨.int a, hx, h gs S σ H env _ hH hm _ fun v d H1 hd e1 r1 => ?_⟩
    split at hd
    · cases r1
      exact ⟨_, _, rfl, rfl, hE.nx _ _ H1 _ ((hH.mono e1).set_dat (.int _)) hd⟩
    · exact hd.elim
  · exact hm.elim
def mDrop (me : ME) (M : MEnds) (env : PEnv) : Prop := me env fun _ => M.nx env
theorem mDrop_e (me : ME) (M : MEnds) (env : PEnv) : mDrop me M env = (me env fun _ => M.nx env) := rfl
theorem ss_drop (h : SimE K H0 S0 .w te me) : SimS K H0 S0 fr (tDrop te) (mDrop me) := fun gs S σ H env D M hH hE hm =>
  h gs S σ H env _ hH hm _ fun v d H1 hd e1 r1 => hE.nx S σ H1 env (hH.mono e1) hd
/-! return -/
def mRet (me : ME) (M : MEnds) (env : PEnv) : Prop := me env M.rt
theorem mRet_e (me : ME) (M : MEnds) (env : PEnv) : mRet me M env = (me env M.rt) := rfl
theorem Holds.up (h : Holds K H0 S0 gs S σ H env) : Ex (era H S) (era H S0) := era_le fun a ha => .inl (h.sub a ha)
theorem ss_ret (h : SimE K H0 S0 .s te me) : SimS K H0 S0 false (tRet te) (mRet me) := fun gs S σ H env D M hH hE hm =>
  h gs S σ H env _ hH hm _ fun v d H1 hd e1 r1 => hE.rt v d H1 (hH.mono e1).ex (by
    unfold RetM
    rw [if_neg (by decide)]
    exact Rp.mono (hH.mono e1).up r1) hd
theorem ss_retN : SimS K H0 S0 false tRetN (mRet (mC .non)) := fun gs S σ H env D M hH hE hm => hE.rt _ _ H hH.ex (by
    unfold RetM
    rw [if_neg (by decide)]
    exact .non) hm
theorem ss_retF (h : SimF K H0 S0 te me) : SimS K H0 S0 true (tRet te) (mRet me) := fun gs S σ H env D M hH hE hm =>
  h gs S σ H env _ hH hm _ fun p d H1 hd hp e1 r1 => hE.rt _ d H1 (hH.mono e1).ex (by
    unfold RetM
    rw [if_pos rfl]
    exact ⟨p, rfl, fresh_back hH.ex hp, r1.mono (Ex.refl _) (era_le fun a ha => (List.mem_cons.mp ha).elim (fun z => .inl (z ▸ List.mem_cons_self)) fun z => .inl (List.mem_cons_of_mem _ (hH.sub a z)))⟩) hd
def mRetO (i : Nat) (M : MEnds) (env : PEnv) : Prop := match env[i]? with
  | some (some (.own d)) => M.rt d
  | _ => False
theorem mRetO_e (i : Nat) (M : MEnds) (env : PEnv) : mRetO i M env = (match env[i]? with
  | some (some (.own d)) => M.rt d
  | _ => False) := rfl
theorem ss_retO {i : Nat} : SimS K H0 S0 true (tRet (tVar i)) (mRetO i) := fun gs S σ H env D M hH hE hm => by
  unfold mRetO at hm
  split at hm
  · rename_i d e
    obtain ⟨x, hx, p, rfl, h1, h2, h3⟩ := hH.at_ i _ e
    refine ⟨.ref p, hx, hE.rt _ d H hH.ex ?_ hm⟩
    unfold RetM
    rw [if_pos rfl]
    exact ⟨p, rfl, h2, h3.mono (Ex.refl _) (era_le fun a ha => (List.mem_cons.mp ha).elim (fun z => .inl (z ▸ h1)) fun z => .inl (hH.sub a z))⟩
  · exact hm.elim
/-! what is built is changed -/
theorem Holds.own_upd (h : Holds K H0 S0 gs S σ H env) {i : Nat} {p : Addr} {d d' : Dat} {o : HO} (hi : env[i]? = some (some (.own d))) (hs : σ[i]? = some (some (.ref p))) (r : OwnAt K (upd H p o) S p d') : Holds K H0 S0 gs S σ (upd H p o) (env.set i (some (.own d'))) := by
  obtain ⟨x, a, q, b, c, c0, c1⟩ := h.at_ i _ hi
  rw [hs] at a
  obtain rfl := Option.some.inj a
  cases b
  have ee : era (upd H p o) S = era H S := era_upd c
  refine ⟨h.ex.mut c0, h.s0, h.sub, h.old, fun q hq => ?_, by rw [List.length_set, h.len], fun j c2 hc => ?_, fun a b d1 e1 q h1 h2 h3 h4 => ?_, fun g hg => by rw [ee]; exact h.gh g hg⟩
  · by_cases e : q = p
    · rw [e, upd_same]; intro z; cases z
    · rw [upd_ne e]; exact h.al q hq
  · rcases get_set hc with ⟨rfl, rfl⟩ | ⟨ne, hc⟩
    · exact ⟨_, hs, p, rfl, c, c0, r⟩
    · obtain ⟨x, a, b⟩ := h.at_ j c2 hc
      refine ⟨x, a, ?_⟩
      unfold CelAt at b ⊢
      split at b
      · rw [ee]; exact b
      · obtain ⟨q, b1, b2, b3, b4⟩ := b
        refine ⟨q, b1, b2, b3, ?_⟩
        have hq : q ≠ p := fun z => by
          subst z
          rename_i aj _ _ _
          exact ne (h.inj i j _ _ q hi hc hs (by rw [← b1]; assumption))
        unfold OwnAt at b4 ⊢
        rw [ee, upd_ne hq]
        exact b4
      · trivial
  · rcases get_set h1 with ⟨e1, _⟩ | ⟨n1, h1⟩
    · rcases get_set h2 with ⟨e2, _⟩ | ⟨n2, h2⟩
      · rw [← e1, ← e2]
      · subst e1
        exact h.inj _ _ _ _ q hi h2 h3 h4
    · rcases get_set h2 with ⟨e2, _⟩ | ⟨n2, h2⟩
      · subst e2
        exact h.inj _ _ _ _ q h1 hi h3 h4
      · exact h.inj _ _ _ _ q h1 h2 h3 h4
def mApp (i : Nat) (me : ME) (M : MEnds) (env : PEnv) : Prop := match env[i]? with
  | some (some (.own (.list xs))) => me env fun d => xs.length < 100000 ∧ M.nx (env.set i (some (.own (.list (xs ++ [d])))))
  | _ => False
theorem mApp_e (i : Nat) (me : ME) (M : MEnds) (env : PEnv) : mApp i me M env = (match env[i]? with
  | some (some (.own (.list xs))) => me env fun d => xs.length < 100000 ∧ M.nx (env.set i (some (.own (.list (xs ++ [d])))))
  | _ => False) := rfl
theorem ss_app {i : Nat} (h : SimE K H0 S0 .s te me) : SimS K H0 S0 fr (tDrop (tBM K "list" rAppend (tVar i) (tCons te tNil))) (mApp i me) := fun gs S σ H env D M hH hE hm => by
  unfold mApp at hm
  split at hm
  · rename_i xs e
    obtain ⟨x, hx, p, rfl, h1, h2, ws, h3, h4⟩ := hH.at_ i _ e
    refine ⟨.ref p, hx, Or.inl ⟨rfl, ws, sq_of h3⟩, h gs S σ H env _ hH hm _ fun v d H1 hd e1 r1 => ⟨p, ws, v, rfl, rfl, e1 _ _ h3, sz_lt (by rw [h4.len]; exact hd.1), hE.nx S σ _ _ ((hH.mono e1).own_upd e hx ?_) hd.2⟩⟩
    exact ⟨_, upd_same, by rw [era_upd h1]; exact (h4.mono (era_ex e1)).append (.cons r1 .nil)⟩
  · exact hm.elim
/-- j = xs.pop() | xs.pop(k) -/
def mPop (i j : Nat) (M : MEnds) (env : PEnv) : Prop := match env[i]? with
  | some (some (.own (.list xs))) => ∃ d, xs[xs.length - 1]? = some d ∧ M.nx ((env.set i (some (.own (.list xs.dropLast)))).set j (some (.dat d)))
  | _ => False
theorem mPop_e (i j : Nat) (M : MEnds) (env : PEnv) : mPop i j M env = (match env[i]? with
  | some (some (.own (.list xs))) => ∃ d, xs[xs.length - 1]? = some d ∧ M.nx ((env.set i (some (.own (.list xs.dropLast)))).set j (some (.dat d)))
  | _ => False) := rfl
theorem ss_pop {i j : Nat} : SimS K H0 S0 fr (tAsg (tBM0 K "list" rPop (tVar i)) (gName j)) (mPop i j) := fun gs S σ H env D M hH hE hm => by
  unfold mPop at hm
  split at hm
  · rename_i xs e
    obtain ⟨x, hx, p, rfl, h1, h2, ws, h3, h4⟩ := hH.at_ i _ e
    obtain ⟨d, hd, hm⟩ := hm
    obtain ⟨w, hw, rw'⟩ := h4.get' hd
    refine ⟨.ref p, hx, Or.inl ⟨rfl, ws, sq_of h3⟩, p, ws, w, rfl, rfl, h3, by rw [h4.len]; exact hw, ?_⟩
    have hH2 := hH.own_upd (o := .lst ws.dropLast) (d' := .list xs.dropLast) e hx ⟨_, upd_same, by rw [era_upd h1]; exact h4.dropLast⟩
    exact hE.nx S _ _ _ (hH2.set_dat (i := j) (by rw [era_upd h1]; exact rw')) hm
  · exact hm.elim
def mPopD (i : Nat) (M : MEnds) (env : PEnv) : Prop := match env[i]? with
  | some (some (.own (.list xs))) => 0 < xs.length ∧ M.nx (env.set i (some (.own (.list xs.dropLast))))
  | _ => False
theorem mPopD_e (i : Nat) (M : MEnds) (env : PEnv) : mPopD i M env = (match env[i]? with
  | some (some (.own (.list xs))) => 0 < xs.length ∧ M.nx (env.set i (some (.own (.list xs.dropLast))))
  | _ => False) := rfl
theorem ss_popD {i : Nat} : SimS K H0 S0 fr (tDrop (tBM0 K "list" rPop (tVar i))) (mPopD i) := fun gs S σ H env D M hH hE hm => by
  unfold mPopD at hm
  split at hm
  · rename_i xs e
    obtain ⟨x, hx, p, rfl, h1, h2, ws, h3, h4⟩ := hH.at_ i _ e
    obtain ⟨w, hw, rw'⟩ := h4.get' (i := xs.length - 1) (List.getElem?_eq_getElem (by omega))
    refine ⟨.ref p, hx, Or.inl ⟨rfl, ws, sq_of h3⟩, p, ws, w, rfl, rfl, h3, by rw [h4.len]; exact hw, ?_⟩
    exact hE.nx S _ _ _ (hH.own_upd (o := .lst ws.dropLast) (d' := .list xs.dropLast) e hx ⟨_, upd_same, by rw [era_upd h1]; exact h4.dropLast⟩) hm.2
  · exact hm.elim
def mPopAt (i j : Nat) (me : ME) (M : MEnds) (env : PEnv) : Prop := match env[i]? with
  | some (some (.own (.list xs))) => me env fun y => match y with
    | .int n => ∃ (k : Nat) (d : Dat), n = (k : Int) ∧ k < 100000 ∧ xs[k]? = some d ∧ M.nx ((env.set i (some (.own (.list (xs.eraseIdx k))))).set j (some (.dat d)))
    | _ => False
  | _ => False
theorem mPopAt_e (i j : Nat) (me : ME) (M : MEnds) (env : PEnv) : mPopAt i j me M env = (match env[i]? with
  | some (some (.own (.list xs))) => me env fun y => match y with
    | .int n => ∃ (k : Nat) (d : Dat), n = (k : Int) ∧ k < 100000 ∧ xs[k]? = some d ∧ M.nx ((env.set i (some (.own (.list (xs.eraseIdx k))))).set j (some (.dat d)))
    | _ => False
  | _ => False) := rfl
theorem ss_popAt {i j : Nat} (h : SimE K H0 S0 .w te me) : SimS K H0 S0 fr (tAsg (tBM K "list" rPopAt (tVar i) (tCons te tNil)) (gName j)) (mPopAt i j me) := fun gs S σ H env D M hH hE hm => by
  unfold mPopAt at hm
  split at hm
  · rename_i xs e
    obtain ⟨x, hx, p, rfl, h1, h2, ws, h3, h4⟩ := hH.at_ i _ e
    refine ⟨.ref p, hx, Or.inl ⟨rfl, ws, sq_of h3⟩, h gs S σ H env _ hH hm _ fun v y H1 hy e1 r1 => ?_⟩
    split at hy
    · obtain ⟨k, d, rfl, hk, hd, hm⟩ := hy
      cases r1
      obtain ⟨w, hw, rw'⟩ := h4.get' hd
      have hl := (List.getElem?_eq_some_iff.mp hw).1
      refine ⟨p, ws, (k : Int), k, w, rfl, rfl, e1 _ _ h3, by omega, by omega, seqIx hl, hw, ?_⟩
      have hH1 := hH.mono e1
      have hH2 := hH1.own_upd (o := .lst (ws.eraseIdx k)) (d' := .list (xs.eraseIdx k)) e hx ⟨_, upd_same, by rw [era_upd h1]; exact (h4.mono (era_ex e1)).erase k⟩
      exact hE.nx S _ _ _ (hH2.set_dat (i := j) (by rw [era_upd h1]; exact rw'.mono (era_ex e1))) hm
    · exact hy.elim
  · exact hm.elim
/-- xs[k] = e -/
def mSetL (i : Nat) (me mk : ME) (M : MEnds) (env : PEnv) : Prop := match env[i]? with
  | some (some (.own (.list xs))) => me env fun d => mk env fun y => match y with
    | .int n => ∃ k, ixN xs.length n = some k ∧ M.nx (env.set i (some (.own (.list (xs.set k d)))))
    | _ => False
  | _ => False
theorem mSetL_e (i : Nat) (me mk : ME) (M : MEnds) (env : PEnv) : mSetL i me mk M env = (match env[i]? with
  | some (some (.own (.list xs))) => me env fun d => mk env fun y => match y with
    | .int n => ∃ k, ixN xs.length n = some k ∧ M.nx (env.set i (some (.own (.list (xs.set k d)))))
    | _ => False
  | _ => False) := rfl
theorem ss_setL {i : Nat} (h : SimE K H0 S0 .s te me) (hk : SimE K H0 S0 .w tk mk) : SimS K H0 S0 fr (tAsg te (gSub (tVar i) tk rSetL)) (mSetL i me mk) := fun gs S σ H env D M hH hE hm => by
  unfold mSetL at hm
  split at hm
  · rename_i xs e
    obtain ⟨x, hx, p, rfl, h1, h2, ws, h3, h4⟩ := hH.at_ i _ e
    refine h gs S σ H env _ hH hm _ fun v d H1 hd e1 r1 => ⟨.ref p, hx, hk gs S σ H1 env _ (hH.mono e1) hd _ fun u y H2 hy e2 r2 => ?_⟩
    split at hy
    · obtain ⟨k, hk, hm⟩ := hy
      cases r2
      have e12 := e1.trans e2
      refine ⟨p, ws, _, k, rfl, rfl, e12 _ _ h3, by rw [h4.len]; exact hk, ?_⟩
      exact hE.nx S _ _ _ ((hH.mono e12).own_upd (o := .lst (ws.set k v)) (d' := .list (xs.set k d)) e hx ⟨_, upd_same, by rw [era_upd h1]; exact RpL.set (RpM.mono (m := .s) e2 r1) k (h4.mono (era_ex e12))⟩) hm
    · exact hy.elim
  · exact hm.elim
/-- d[k] = e -/
def mDPut (i : Nat) (mk me : ME) (M : MEnds) (env : PEnv) : Prop := match env[i]? with
  | some (some (.own (.dict es))) => me env fun d => mk env fun y => ∃ k, keyD y = some k ∧ es.length < 100000 ∧ M.nx (env.set i (some (.own (.dict (putG es k d)))))
  | _ => False
theorem mDPut_e (i : Nat) (mk me : ME) (M : MEnds) (env : PEnv) : mDPut i mk me M env = (match env[i]? with
  | some (some (.own (.dict es))) => me env fun d => mk env fun y => ∃ k, keyD y = some k ∧ es.length < 100000 ∧ M.nx (env.set i (some (.own (.dict (putG es k d)))))
  | _ => False) := rfl
theorem ss_dput {i : Nat} (hk : SimE K H0 S0 .w tk mk) (h : SimE K H0 S0 .s te me) : SimS K H0 S0 fr (sDPut (tVar i) tk te) (mDPut i mk me) := fun gs S σ H env D M hH hE hm => by
  unfold mDPut at hm
  split at hm
  · rename_i es e
    obtain ⟨x, hx, p, rfl, h1, h2, ws, h3, h4⟩ := hH.at_ i _ e
    refine h gs S σ H env _ hH hm _ fun v d H1 hd e1 r1 => ⟨.ref p, hx, hk gs S σ H1 env _ (hH.mono e1) hd _ fun u y H2 hy e2 r2 => ?_⟩
    obtain ⟨k, hkey, hl, hm⟩ := hy
    have e12 := e1.trans e2
    refine ⟨p, upd H2 p (.dK (putK ws k v)), rfl, .inl ⟨ws, k, e12 _ _ h3, keyD_kV r2.weak hkey, sz_lt (by rw [h4.len]; exact hl), rfl⟩, ?_⟩
    exact hE.nx S _ _ _ ((hH.mono e12).own_upd (o := .dK (putK ws k v)) (d' := .dict (putG es k d)) e hx ⟨_, upd_same, by rw [era_upd h1]; exact RpK.put (RpM.mono (m := .s) e2 r1) (h4.mono (era_ex e12))⟩) hm
  · exact hm.elim
def mRev (i : Nat) (M : MEnds) (env : PEnv) : Prop := match env[i]? with
  | some (some (.own (.list xs))) => M.nx (env.set i (some (.own (.list xs.reverse))))
  | _ => False
theorem mRev_e (i : Nat) (M : MEnds) (env : PEnv) : mRev i M env = (match env[i]? with
  | some (some (.own (.list xs))) => M.nx (env.set i (some (.own (.list xs.reverse))))
  | _ => False) := rfl
theorem ss_rev {i : Nat} : SimS K H0 S0 fr (tDrop (tBM0 K "list" rReverse (tVar i))) (mRev i) := fun gs S σ H env D M hH hE hm => by
  unfold mRev at hm
  split at hm
  · rename_i xs e
    obtain ⟨x, hx, p, rfl, h1, h2, ws, h3, h4⟩ := hH.at_ i _ e
    exact ⟨.ref p, hx, Or.inl ⟨rfl, ws, sq_of h3⟩, p, ws, rfl, rfl, h3, hE.nx S _ _ _ (hH.own_upd (o := .lst ws.reverse) (d' := .list xs.reverse) e hx ⟨_, upd_same, by rw [era_upd h1]; exact h4.rev⟩) hm⟩
  · exact hm.elim
/-- xs.extend(ys), ys a new list -/
def mExt (i : Nat) (me : ME) (M : MEnds) (env : PEnv) : Prop := match env[i]? with
  | some (some (.own (.list xs))) => me env fun d => match d with
    | .list ys => xs.length + ys.length ≤ 100000 ∧ M.nx (env.set i (some (.own (.list (xs ++ ys)))))
    | _ => False
  | _ => False
theorem mExt_e (i : Nat) (me : ME) (M : MEnds) (env : PEnv) : mExt i me M env = (match env[i]? with
  | some (some (.own (.list xs))) => me env fun d => match d with
    | .list ys => xs.length + ys.length ≤ 100000 ∧ M.nx (env.set i (some (.own (.list (xs ++ ys)))))
    | _ => False
  | _ => False) := rfl
theorem ss_ext {i : Nat} (h : SimF K H0 S0 te me) : SimS K H0 S0 fr (tDrop (tBM K "list" rExtend (tVar i) (tCons te tNil))) (mExt i me) := fun gs S σ H env D M hH hE hm => by
  unfold mExt at hm
  split at hm
  · rename_i xs e
    obtain ⟨x, hx, p, rfl, h1, h2, ws, h3, h4⟩ := hH.at_ i _ e
    refine ⟨.ref p, hx, Or.inl ⟨rfl, ws, sq_of h3⟩, h gs S σ H env _ hH hm _ fun q d H1 hd hq e1 r1 => ?_⟩
    split at hd
    · rename_i ys
      obtain ⟨us, a, b⟩ := r1
      refine ⟨p, q, ws, us, rfl, rfl, e1 _ _ h3, a, sz_of (by rw [h4.len, b.len]; exact hd.1), ?_⟩
      exact hE.nx S _ _ _ ((hH.mono e1).own_upd (o := .lst (ws ++ us)) (d' := .list (xs ++ ys)) e hx ⟨_, upd_same, by rw [era_upd h1]; exact (h4.mono (era_ex e1)).append (b.mono (era_le fun a ha => .inl (List.mem_cons_of_mem _ ha)))⟩) hd.2
    · exact hd.elim
  · exact hm.elim
/-! what is built is done: from now on data -/
def frzE (env : PEnv) (i : Nat) : PEnv := match env[i]? with
  | some (some (.own d)) => env.set i (some (.dat d))
  | _ => env
def mFrz (i : Nat) (mu : MS) (M : MEnds) (env : PEnv) : Prop := mu M (frzE env i)
theorem mFrz_e (i : Nat) (mu : MS) (M : MEnds) (env : PEnv) : mFrz i mu M env = (mu M (frzE env i)) := rfl
theorem Holds.freeze (h : Holds K H0 S0 gs S σ H env) (i : Nat) : ∃ S', Holds K H0 S0 gs S' σ H (frzE env i) := by
  unfold frzE
  split
  · rename_i d e
    obtain ⟨x, hx, p, rfl, h1, h2, h3⟩ := h.at_ i _ e
    have hs0 : p ∉ S0 := fun z => h.s0 p z h2
    have hle : Ex (era H S) (era H (S.filter fun q => decide (q ≠ p))) := era_le fun a ha => .inl (List.mem_filter.mp ha).1
    refine ⟨S.filter fun q => decide (q ≠ p), h.ex, h.s0, fun q hq => List.mem_filter.mpr ⟨h.sub q hq, decide_eq_true fun z => hs0 (z ▸ hq)⟩, fun q hq => h.old q (List.mem_filter.mp hq).1, fun q hq => h.al q (List.mem_filter.mp hq).1, by rw [List.length_set, h.len], fun j c hc => ?_, fun a b d1 e1 q k1 k2 k3 k4 => ?_, fun g hg => (h.gh g hg).mono hle⟩
    · rcases get_set hc with ⟨rfl, rfl⟩ | ⟨ne, hc⟩
      · exact ⟨_, hx, .ref p, rfl, h3.rp (fun z => of_decide_eq_true (List.mem_filter.mp z).2 rfl) hle⟩
      · obtain ⟨x, a, b⟩ := h.at_ j c hc
        refine ⟨x, a, ?_⟩
        unfold CelAt at b ⊢
        split at b
        · obtain ⟨v, b1, b2⟩ := b
          exact ⟨v, b1, b2.mono hle⟩
        · obtain ⟨q, b1, b2, b3, b4⟩ := b
          refine ⟨q, b1, List.mem_filter.mpr ⟨b2, decide_eq_true fun z => ?_⟩, b3, b4.mono (Ex.refl _) hle⟩
          subst z
          exact ne (h.inj i j _ _ q e hc hx (by rw [← b1]; assumption))
        · trivial
    · rcases get_set k1 with ⟨e1, hh⟩ | ⟨n1, k1⟩
      · cases hh
      · rcases get_set k2 with ⟨e2, hh⟩ | ⟨n2, k2⟩
        · cases hh
        · exact h.inj a b d1 _ q k1 k2 k3 k4
  · exact ⟨S, h⟩
theorem ss_frz {i : Nat} (h : SimS K H0 S0 fr tu mu) : SimS K H0 S0 fr tu (mFrz i mu) := fun gs S σ H env D M hH hE hm => by
  obtain ⟨S', hH'⟩ := hH.freeze i
  exact h gs S' σ H _ D M hH' hE hm
/-! loops -/
theorem Holds.ghosts {g2 : List (V × Dat)} (h : Holds K H0 S0 gs S σ H env) (hg : ∀ vd ∈ g2, Rp K (era H S) vd.1 vd.2) : Holds K H0 S0 (g2 ++ gs) S σ H env :=
  ⟨h.ex, h.s0, h.sub, h.old, h.al, h.len, h.at_, h.inj, fun g hg' => (List.mem_append.mp hg').elim (hg g) (h.gh g)⟩
theorem Holds.less {g2 : List (V × Dat)} (h : Holds K H0 S0 (g2 ++ gs) S σ H env) : Holds K H0 S0 gs S σ H env :=
  ⟨h.ex, h.s0, h.sub, h.old, h.al, h.len, h.at_, h.inj, fun g hg => h.gh g (List.mem_append_right _ hg)⟩
def FStep (mg : MG) (mu : MS) (M : MEnds) (d : Dat) (env : PEnv) : Prop := mg d env (mu M)
def mFor (mi : MA) (mg : MG) (mu : MS) (M : MEnds) (env : PEnv) : Prop := mi env fun xs => ∃ Inv : Nat → PEnv → Prop, Inv 0 env ∧
  (∀ (i : Nat) (d : Dat) (env1 : PEnv), xs[i]? = some d → Inv i env1 → FStep mg mu { M with nx := Inv (i + 1), ct := Inv (i + 1), bk := M.nx } d env1) ∧ ∀ env1, Inv xs.length env1 → Aft M.nx env1
theorem mFor_e (mi : MA) (mg : MG) (mu : MS) (M : MEnds) (env : PEnv) : mFor mi mg mu M env = (mi env fun xs => ∃ Inv : Nat → PEnv → Prop, Inv 0 env ∧
  (∀ (i : Nat) (d : Dat) (env1 : PEnv), xs[i]? = some d → Inv i env1 → FStep mg mu { M with nx := Inv (i + 1), ct := Inv (i + 1), bk := M.nx } d env1) ∧ ∀ env1, Inv xs.length env1 → Aft M.nx env1) := rfl
theorem ss_for (h : SimI K H0 S0 .s wi mi) (hg : SimG K H0 S0 js g mg) (hb : SimS K H0 S0 fr tu mu) : SimS K H0 S0 fr (tFor wi g tu) (mFor mi mg mu) := fun gs S σ H env D M hH hE hm =>
  h gs S σ H env _ hH hm _ fun J xs H1 gg hx e1 hgg hw => by
    obtain ⟨Inv, i0, istep, iend⟩ := hx
    refine ⟨fun i m σ H => m = xs.length - i ∧ i ≤ xs.length ∧ ∃ S env, Holds K H0 S0 (gg ++ gs) S σ H env ∧ Inv i env, ⟨xs.length, rfl, Nat.zero_le _, S, env, (hH.mono e1).ghosts hgg, i0⟩, ?_⟩
    rintro i m σ1 Hh ⟨rfl, hi, S1, env1, hH1, hI⟩
    obtain ⟨w1, w2⟩ := hw S1 Hh hH1.al fun vd hvd => .inl (hH1.gh vd (List.mem_append_left _ hvd))
    by_cases hlt : i < xs.length
    · have hd : xs[i]? = some (xs[i]'hlt) := List.getElem?_eq_getElem hlt
      generalize xs[i]'hlt = d at hd
      obtain ⟨go, yl⟩ := w2 i d hd
      refine .inr ⟨go, fun σ' H' => ∃ S env, Holds K H0 S0 (gg ++ gs) S σ' H' env ∧ Inv (i + 1) env, fun σ' H' q => ⟨_, show xs.length - (i + 1) < xs.length - i by omega, rfl, hlt, q⟩, fun x H' y => ?_⟩
      obtain ⟨e2, rx⟩ := yl x H' y
      refine hg (gg ++ gs) S1 σ1 H' env1 _ x d (hH1.mono e2) rx (istep i d env1 hd hI) _ fun σ2 env2 hm2 hH2 _ => ?_
      refine hb (gg ++ gs) S1 σ2 H' env2 _ { M with nx := Inv (i + 1), ct := Inv (i + 1), bk := M.nx } hH2 ⟨fun S σ H env a b => ⟨S, env, a, b⟩, fun S σ H env a b => hE.nx S σ H env a.less b, fun S σ H env a b => ⟨S, env, a, b⟩, hE.rt⟩ hm2
    · have hin : i = xs.length := by omega
      subst hin
      exact .inl ⟨w1, hE.nx S1 σ1 Hh env1 hH1.less (iend env1 hI)⟩
def WStep (mt : MT) (mu : MS) (M : MEnds) (W : Nat → PEnv → Prop) (m : Nat) (env1 : PEnv) : Prop := mt env1 fun b => if b = true then ∃ N : PEnv → Prop, (∀ env2, N env2 → ∃ m', m' < m ∧ W m' env2) ∧ mu { M with nx := N, ct := N, bk := M.nx } env1 else M.nx env1
def mWhile (mt : MT) (mu : MS) (M : MEnds) (env : PEnv) : Prop := ∃ W : Nat → PEnv → Prop, (∃ m, W m env) ∧ ∀ (m : Nat) (env1 : PEnv), W m env1 → WStep mt mu M W m env1
theorem mWhile_e (mt : MT) (mu : MS) (M : MEnds) (env : PEnv) : mWhile mt mu M env = (∃ W : Nat → PEnv → Prop, (∃ m, W m env) ∧ ∀ (m : Nat) (env1 : PEnv), W m env1 → WStep mt mu M W m env1) := rfl
theorem ss_while (ht : SimT K H0 S0 tt mt) (hb : SimS K H0 S0 fr tu mu) : SimS K H0 S0 fr (tWhile tt tu) (mWhile mt mu) := fun gs S σ H env D M hH hE hm => by
  obtain ⟨W, ⟨m0, h0⟩, hs⟩ := hm
  refine ⟨fun m σ H => ∃ S env, Holds K H0 S0 gs S σ H env ∧ W m env, ⟨m0, S, env, hH, h0⟩, ?_⟩
  rintro m σ1 Hh ⟨S1, env1, hH1, hw⟩
  refine ht gs S1 σ1 Hh env1 _ hH1 (hs m env1 hw) _ fun b H2 hb2 e2 => ?_
  cases b with
  | true =>
    rw [if_pos rfl] at hb2 ⊢
    obtain ⟨N, n1, n2⟩ := hb2
    refine ⟨fun σ H => ∃ S env, Holds K H0 S0 gs S σ H env ∧ N env, fun σ' H' ⟨S, env, a, b⟩ => ?_, ?_⟩
    · obtain ⟨m', hm', hw'⟩ := n1 env b
      exact ⟨m', hm', S, env, a, hw'⟩
    · exact hb gs S1 σ1 H2 env1 _ { M with nx := N, ct := N, bk := M.nx } (hH1.mono e2) ⟨fun S σ H env a b => ⟨S, env, a, b⟩, hE.nx, fun S σ H env a b => ⟨S, env, a, b⟩, hE.rt⟩ n2
  | false =>
    rw [if_neg (by decide)] at hb2 ⊢
    exact hE.nx S1 σ1 H2 env1 (hH1.mono e2) hb2
/-! f-strings -/
def mFmt (me : ME) (env : PEnv) (P : Dat → Prop) : Prop := me env fun d => match d with
  | .str y => y.length ≤ 100000 ∧ P (.str y)
  | .int i => i.natAbs.log2 < 1920 ∧ P (.str (toString i))
  | _ => False
theorem mFmt_e (me : ME) (env : PEnv) (P : Dat → Prop) : mFmt me env P = (me env fun d => match d with
  | .str y => y.length ≤ 100000 ∧ P (.str y)
  | .int i => i.natAbs.log2 < 1920 ∧ P (.str (toString i))
  | _ => False) := rfl
theorem sm_fmt (h : SimE K H0 S0 .w te me) : SimE K H0 S0 m (tFmt te) (mFmt me) := fun gs S σ H env P hH hm Q q =>
  h gs S σ H env _ hH hm _ fun v d H1 hd e1 r1 => by
    split at hd
    · cases r1
      exact .inl ⟨_, rfl, sz_of hd.1, q _ _ H1 hd.2 e1 (RpM.of_s (.str _))⟩
    · cases r1
      exact .inr ⟨_, rfl, hd.1, q _ _ H1 hd.2 e1 (RpM.of_s (.str _))⟩
    · exact hd.elim
def mFmtR (me : ME) (env : PEnv) (P : Dat → Prop) : Prop := me env fun d => match d with
  | .str y => (reprText y).length ≤ 100000 ∧ P (.str (reprText y))
  | .int i => i.natAbs.log2 < 1920 ∧ P (.str (toString i))
  | _ => False
theorem mFmtR_e (me : ME) (env : PEnv) (P : Dat → Prop) : mFmtR me env P = (me env fun d => match d with
  | .str y => (reprText y).length ≤ 100000 ∧ P (.str (reprText y))
  | .int i => i.natAbs.log2 < 1920 ∧ P (.str (toString i))
  | _ => False) := rfl
theorem sm_fmtR (h : SimE K H0 S0 .w te me) : SimE K H0 S0 m (tFmtR te) (mFmtR me) := fun gs S σ H env P hH hm Q q =>
  h gs S σ H env _ hH hm _ fun v d H1 hd e1 r1 => by
    split at hd
    · cases r1
      exact .inl ⟨_, rfl, sz_of hd.1, q _ _ H1 hd.2 e1 (RpM.of_s (.str _))⟩
    · cases r1
      exact .inr ⟨_, rfl, hd.1, q _ _ H1 hd.2 e1 (RpM.of_s (.str _))⟩
    · exact hd.elim
inductive SimJ (K : PySem.W.Frag) (H0 : Hp) (S0 : List Addr) : List TE → List ME → Prop
  | nil : SimJ K H0 S0 [] []
  | cons {t : TE} {me : ME} {ts : List TE} {mes : List ME} : SimE K H0 S0 .w t me → SimJ K H0 S0 ts mes → SimJ K H0 S0 (t :: ts) (me :: mes)
def mJs : List ME → Str → PEnv → (Str → Prop) → Prop
  | [], acc, _, P => P acc
  | me :: r, acc, env, P => me env fun d => match d with
    | .str y => (acc ++ y).length ≤ 100000 ∧ mJs r (acc ++ y) env P
    | _ => False
theorem sj_run {ts : List TE} {mes : List ME} (h : SimJ K H0 S0 ts mes) : ∀ (gs : List (V × Dat)) (S : List Addr) (σ : List (Option V)) (H : Hp) (env : PEnv) (acc : Str) (P : Str → Prop), Holds K H0 S0 gs S σ H env → mJs mes acc env P → ∀ Q : Str → Hp → Prop, (∀ out H', P out → Ex H H' → Q out H') → tJs ts acc σ H Q := by
  induction h with
  | nil => intro gs S σ H env acc P hH hm Q q; exact q acc H hm (Ex.refl H)
  | cons h r ih =>
    intro gs S σ H env acc P hH hm Q q
    refine h gs S σ H env _ hH hm _ fun v d H1 hd e1 r1 => ?_
    split at hd
    · cases r1
      exact ⟨_, rfl, sz_of hd.1, ih gs S σ H1 env _ P (hH.mono e1) hd.2 Q fun out H2 hP e2 => q out H2 hP (e1.trans e2)⟩
    · exact hd.elim
def mJoin (mes : List ME) (env : PEnv) (P : Dat → Prop) : Prop := mJs mes Str.empty env fun out => P (.str out)
theorem mJoin_e (mes : List ME) (env : PEnv) (P : Dat → Prop) : mJoin mes env P = (mJs mes Str.empty env fun out => P (.str out)) := rfl
theorem sm_js {ts : List TE} {mes : List ME} (h : SimJ K H0 S0 ts mes) : SimE K H0 S0 m (fun σ H Q => tJs ts Str.empty σ H fun out H1 => Q (.str out) H1) (mJoin mes) := fun gs S σ H env P hH hm Q q =>
  sj_run h gs S σ H env _ _ hH hm _ fun out H1 hP e1 => q _ _ H1 hP e1 (RpM.of_s (.str _))
/-! raise -/
def mRaise (X : Value → Prop) (x : Value) (me : ME) (M : MEnds) (env : PEnv) : Prop := me env fun _ => X x
theorem mRaise_e (X : Value → Prop) (x : Value) (me : ME) (M : MEnds) (env : PEnv) : mRaise X x me M env = (me env fun _ => X x) := rfl
theorem ss_raise {E : XK} {X : Value → Prop} {x : Value} (hX : ∀ x H', X x → Ex H0 H' → E x none H') (h : SimE K H0 S0 .w te me) : SimS K H0 S0 fr (fun _ σ H => te σ H fun _ H1 => E x none H1) (mRaise X x me) := fun gs S σ H env D M hH hE hm =>
  h gs S σ H env _ hH hm _ fun v d H1 hd e1 r1 => hX x H1 hd (hH.mono e1).ex
def mRaise0 (X : Value → Prop) (x : Value) (M : MEnds) (env : PEnv) : Prop := X x
theorem mRaise0_e (X : Value → Prop) (x : Value) (M : MEnds) (env : PEnv) : mRaise0 X x M env = (X x) := rfl
theorem ss_raise0 {E : XK} {X : Value → Prop} {x : Value} (hX : ∀ x H', X x → Ex H0 H' → E x none H') : SimS K H0 S0 fr (fun _ σ H => E x none H) (mRaise0 X x) := fun gs S σ H env D M hH hE hm => hX x H hm hH.ex
/-! a def's body -/
def startE (n : Nat) (ds : List Dat) : PEnv := ds.map (fun d => some (.dat d)) ++ List.replicate (n - ds.length) none
theorem start_holds {N : List Str} {vs : List V} {ds : List Dat} (ha : ∀ q ∈ S0, H0 q ≠ none) (r : RpL K (era H0 S0) vs ds) : Holds K H0 S0 [] S0 (L2.start N vs) H0 (startE N.length ds) := by
  refine ⟨Ex.refl _, ha, fun q hq => hq, fun q hq => .inl hq, ha, ?_, fun i c hc => ?_, fun i j d e p h1 _ _ _ => ?_, fun g hg => by cases hg⟩
  · unfold L2.start startE
    rw [List.length_append, List.length_append, List.length_map, List.length_map, List.length_replicate, List.length_replicate, r.len]
  · unfold startE at hc
    unfold L2.start
    by_cases hi : i < ds.length
    · rw [List.getElem?_append_left (by rw [List.length_map]; exact hi), List.getElem?_map] at hc
      rw [List.getElem?_append_left (by rw [List.length_map, r.len]; exact hi), List.getElem?_map]
      obtain ⟨w, hw, rw'⟩ := r.get' (List.getElem?_eq_getElem hi)
      rw [List.getElem?_eq_getElem hi] at hc
      rw [hw]
      cases hc
      exact ⟨_, rfl, w, rfl, rw'⟩
    · rw [List.getElem?_append_right (by rw [List.length_map]; omega), List.length_map] at hc
      rw [List.getElem?_append_right (by rw [List.length_map, r.len]; omega), List.length_map, r.len]
      obtain ⟨a, b⟩ := List.getElem?_eq_some_iff.mp hc
      rw [List.length_replicate] at a
      rw [List.getElem_replicate] at b
      subst b
      exact ⟨none, List.getElem?_replicate_of_lt a, trivial⟩
  · unfold startE at h1
    by_cases hi : i < ds.length
    · rw [List.getElem?_append_left (by rw [List.length_map]; exact hi), List.getElem?_map, List.getElem?_eq_getElem hi] at h1
      cases h1
    · rw [List.getElem?_append_right (by rw [List.length_map]; omega)] at h1
      have := (List.getElem?_eq_some_iff.mp h1).2
      rw [List.getElem_replicate] at this
      cases this
theorem spD_len {ps : PSp} {vs : List V} {Q : VK} {E : XK} {n : Nat} (h : spD K ps vs H Q E) (k : ∀ ds P X, ps ds P X → ds.length = n) : vs.length = n := by
  obtain ⟨S, ds, P, X, _, r, hp, _⟩ := h
  rw [r.len]
  exact k ds P X hp
theorem spF_len {ps : PSp} {vs : List V} {Q : VK} {E : XK} {n : Nat} (h : spF K ps vs H Q E) (k : ∀ ds P X, ps ds P X → ds.length = n) : vs.length = n := by
  obtain ⟨S, ds, P, X, _, r, hp, _⟩ := h
  rw [r.len]
  exact k ds P X hp
theorem run_D {ps : PSp} {vs : List V} {Q : VK} {E : XK} {N : List Str} {t : TS} {mu : (Value → Prop) → MS} (sim : ∀ (S0 : List Addr) (X : Value → Prop), (∀ x H', X x → Ex H H' → E x none H') → SimS K H S0 false t (mu X)) (h : spD K ps vs H Q E) (k : ∀ ds P X, ps ds P X → mu X { nx := fun _ => P .non, rt := P } (startE N.length ds)) : t { nx := fun _ H' => Q .non H', rt := Q } (L2.start N vs) H := by
  obtain ⟨S, ds, P, X, ha, r, hp, hq, hx⟩ := h
  refine sim S X hx [] S _ H _ _ { nx := fun _ => P .non, rt := P } (start_holds ha r) ⟨fun S2 σ H' env hH hn => hq .non .non H' hn hH.ex .non, fun _ _ _ _ _ h => h.elim, fun _ _ _ _ _ h => h.elim, fun v d H' e hr hd => hq v d H' hd e ?_⟩ (k ds P X hp)
  unfold RetM at hr
  rw [if_neg (by decide)] at hr
  exact hr
theorem run_F {ps : PSp} {vs : List V} {Q : VK} {E : XK} {N : List Str} {t : TS} {mu : (Value → Prop) → MS} (sim : ∀ (S0 : List Addr) (X : Value → Prop), (∀ x H', X x → Ex H H' → E x none H') → SimS K H S0 true t (mu X)) (h : spF K ps vs H Q E) (k : ∀ ds P X, ps ds P X → mu X { nx := fun _ => False, rt := P } (startE N.length ds)) : t { nx := fun _ H' => Q .non H', rt := Q } (L2.start N vs) H := by
  obtain ⟨S, ds, P, X, ha, r, hp, hq, hx⟩ := h
  refine sim S X hx [] S _ H _ _ { nx := fun _ => False, rt := P } (start_holds ha r) ⟨fun S2 σ H' env hH hn => hn.elim, fun _ _ _ _ _ h => h.elim, fun _ _ _ _ _ h => h.elim, fun v d H' e hr hd => ?_⟩ (k ds P X hp)
  unfold RetM at hr
  rw [if_pos rfl] at hr
  obtain ⟨p, rfl, h0, ho⟩ := hr
  exact hq p d H' hd h0 e ho
end
end GR
namespace GR
open PySem PySem.Spec PyProof.Rows L2 Evl
/-! ## loops and comprehensions over typed lists -/
section
variable {mg : MG} {mu : MS} {mt : MT} {me mk : ME} {rt : Dat → Prop} {bk Z : PEnv → Prop} {env : PEnv} {ds : List Dat} {n : Nat}
theorem split_at {α : Type} {L : List α} {i : Nat} {x : α} (e : L[i]? = some x) : L = L.take i ++ x :: L.drop (i + 1) := by
  obtain ⟨hlt, hx⟩ := List.getElem?_eq_some_iff.mp e
  rw [← hx]
  exact ((List.take_append_drop i L).symm.trans (by rw [List.drop_eq_getElem_cons hlt]))
theorem map_get {α : Type} {f : α → Dat} {xs : List α} {i : Nat} {d : Dat} (h : (xs.map f)[i]? = some d) : ∃ x, xs[i]? = some x ∧ d = f x := by
  rw [List.getElem?_map] at h
  cases e : xs[i]? with
  | none => rw [e] at h; cases h
  | some x => rw [e] at h; exact ⟨x, rfl, (Option.some.inj h).symm⟩
theorem for_list {α : Type} {g : α → Dat} (L : List α) (Inv : List α → PEnv → Prop) (hds : ds = L.map g) (hn : n = L.length) (h0 : Inv [] env)
    (hs : ∀ (pre : List α) (x : α) (post : List α) (env1 : PEnv), L = pre ++ x :: post → Inv pre env1 → FStep mg mu ⟨Inv (pre ++ [x]), rt, bk, Inv (pre ++ [x])⟩ (g x) env1)
    (he : ∀ env1, Inv L env1 → Z env1) :
    ∃ I : Nat → PEnv → Prop, I 0 env ∧ (∀ (i : Nat) (d : Dat) (env1 : PEnv), ds[i]? = some d → I i env1 → FStep mg mu ⟨I (i + 1), rt, bk, I (i + 1)⟩ d env1) ∧ ∀ env1, I n env1 → Z env1 := by
  subst hds; subst hn
  refine ⟨fun i => Inv (L.take i), by simpa using h0, fun i d env1 hd hI => ?_, fun env1 h => he env1 (by simpa using h)⟩
  obtain ⟨x, e, rfl⟩ := map_get hd
  have ht : L.take (i + 1) = L.take i ++ [x] := by rw [List.take_add_one, e]; rfl
  show FStep mg mu ⟨Inv (L.take (i + 1)), rt, bk, Inv (L.take (i + 1))⟩ (g x) env1
  rw [ht]
  exact hs (L.take i) x (L.drop (i + 1)) env1 (split_at e) hI
theorem for_rngA {lo : Int} (Inv : Nat → PEnv → Prop) (h0 : Inv 0 env)
    (hs : ∀ (k : Nat) (env1 : PEnv), k < n → Inv k env1 → FStep mg mu ⟨Inv (k + 1), rt, bk, Inv (k + 1)⟩ (.int (lo + (k : Int))) env1)
    (he : ∀ env1, Inv n env1 → Z env1) :
    ∃ I : Nat → PEnv → Prop, I 0 env ∧ (∀ (i : Nat) (d : Dat) (env1 : PEnv), (rngD lo n)[i]? = some d → I i env1 → FStep mg mu ⟨I (i + 1), rt, bk, I (i + 1)⟩ d env1) ∧ ∀ env1, I n env1 → Z env1 :=
  ⟨Inv, h0, fun i d env1 hd hI => by
    obtain ⟨hi, rfl⟩ := rngD_get hd
    exact hs i env1 hi hI, he⟩
theorem for_rng (Inv : Nat → PEnv → Prop) (h0 : Inv 0 env)
    (hs : ∀ (k : Nat) (env1 : PEnv), k < n → Inv k env1 → FStep mg mu ⟨Inv (k + 1), rt, bk, Inv (k + 1)⟩ (.int (k : Int)) env1)
    (he : ∀ env1, Inv n env1 → Z env1) :
    ∃ I : Nat → PEnv → Prop, I 0 env ∧ (∀ (i : Nat) (d : Dat) (env1 : PEnv), (rngD 0 n)[i]? = some d → I i env1 → FStep mg mu ⟨I (i + 1), rt, bk, I (i + 1)⟩ d env1) ∧ ∀ env1, I n env1 → Z env1 :=
  for_rngA Inv h0 (fun k env1 hk hI => by rw [Int.zero_add]; exact hs k env1 hk hI) he
/-- some slots get new values -/
def putS (env : PEnv) : List Nat → List (Option Cel) → PEnv
  | j :: js, v :: vs => putS (env.set j v) js vs
  | [], _ => env
  | _ :: _, [] => env
theorem for_st {α : Type} {g : α → Dat} (js : List Nat) (L : List α) (R : List α → List (Option Cel) → Prop) (hds : ds = L.map g) (hn : n = L.length) (vs0 : List (Option Cel)) (h0 : R [] vs0) (e0 : env = putS env js vs0)
    (hs : ∀ (pre : List α) (x : α) (post : List α) (vs : List (Option Cel)), L = pre ++ x :: post → R pre vs → FStep mg mu ⟨fun e => ∃ vs, R (pre ++ [x]) vs ∧ e = putS env js vs, rt, bk, fun e => ∃ vs, R (pre ++ [x]) vs ∧ e = putS env js vs⟩ (g x) (putS env js vs))
    (he : ∀ vs, R L vs → Z (putS env js vs)) :
    ∃ I : Nat → PEnv → Prop, I 0 env ∧ (∀ (i : Nat) (d : Dat) (env1 : PEnv), ds[i]? = some d → I i env1 → FStep mg mu ⟨I (i + 1), rt, bk, I (i + 1)⟩ d env1) ∧ ∀ env1, I n env1 → Z env1 :=
  for_list L (fun pre e => ∃ vs, R pre vs ∧ e = putS env js vs) hds hn ⟨vs0, h0, e0⟩ (fun pre x post env1 hl ⟨vs, hr, he⟩ => by
    subst he
    exact hs pre x post vs hl hr) fun env1 ⟨vs, hr, e⟩ => by
    subst e
    exact he vs hr
theorem for_stRA {lo : Int} (js : List Nat) (R : Nat → List (Option Cel) → Prop) (vs0 : List (Option Cel)) (h0 : R 0 vs0) (e0 : env = putS env js vs0)
    (hs : ∀ (k : Nat) (vs : List (Option Cel)), k < n → R k vs → FStep mg mu ⟨fun e => ∃ vs, R (k + 1) vs ∧ e = putS env js vs, rt, bk, fun e => ∃ vs, R (k + 1) vs ∧ e = putS env js vs⟩ (.int (lo + (k : Int))) (putS env js vs))
    (he : ∀ vs, R n vs → Z (putS env js vs)) :
    ∃ I : Nat → PEnv → Prop, I 0 env ∧ (∀ (i : Nat) (d : Dat) (env1 : PEnv), (rngD lo n)[i]? = some d → I i env1 → FStep mg mu ⟨I (i + 1), rt, bk, I (i + 1)⟩ d env1) ∧ ∀ env1, I n env1 → Z env1 :=
  for_rngA (fun k e => ∃ vs, R k vs ∧ e = putS env js vs) ⟨vs0, h0, e0⟩ (fun k env1 hk ⟨vs, hr, e⟩ => by
    subst e
    exact hs k vs hk hr) fun env1 ⟨vs, hr, e⟩ => by
    subst e
    exact he vs hr
theorem for_stR (js : List Nat) (R : Nat → List (Option Cel) → Prop) (vs0 : List (Option Cel)) (h0 : R 0 vs0) (e0 : env = putS env js vs0)
    (hs : ∀ (k : Nat) (vs : List (Option Cel)), k < n → R k vs → FStep mg mu ⟨fun e => ∃ vs, R (k + 1) vs ∧ e = putS env js vs, rt, bk, fun e => ∃ vs, R (k + 1) vs ∧ e = putS env js vs⟩ (.int (k : Int)) (putS env js vs))
    (he : ∀ vs, R n vs → Z (putS env js vs)) :
    ∃ I : Nat → PEnv → Prop, I 0 env ∧ (∀ (i : Nat) (d : Dat) (env1 : PEnv), (rngD 0 n)[i]? = some d → I i env1 → FStep mg mu ⟨I (i + 1), rt, bk, I (i + 1)⟩ d env1) ∧ ∀ env1, I n env1 → Z env1 :=
  for_stRA js R vs0 h0 e0 (fun k vs hk hr => by rw [Int.zero_add]; exact hs k vs hk hr) he
/-- a join: some slots, at values that are R -/
theorem cut_st (js : List Nat) (R : List (Option Cel) → Prop) {mw : PEnv → Prop} {A : (PEnv → Prop) → Prop} (h1 : A fun e => ∃ vs, R vs ∧ e = putS env js vs) (h2 : ∀ vs, R vs → mw (putS env js vs)) : ∃ J : PEnv → Prop, Hv env ∧ A J ∧ ∀ env1, J env1 → mw env1 :=
  ⟨_, trivial, h1, fun env1 ⟨vs, hr, e⟩ => by
    subst e
    exact h2 vs hr⟩
/-- what a comprehension over typed things gives -/
def compF {α : Type} (L : List α) (h : α → Option Dat) : Nat → Dat → Option Dat := fun i _ => (L[i]?).bind h
theorem compF_eq {α : Type} {g : α → Dat} {L : List α} {h : α → Option Dat} : ((L.map g).mapIdx (compF L h)).filterMap id = L.filterMap h := by
  have key : ∀ (ys : List α) (f : Nat → Dat → Option Dat), (∀ i x, ys[i]? = some x → f i (g x) = h x) → ((ys.map g).mapIdx f).filterMap id = ys.filterMap h := by
    intro ys
    induction ys with
    | nil => intro f _; rfl
    | cons y r ih =>
      intro f hf
      rw [List.map_cons, List.mapIdx_cons, List.filterMap_cons, List.filterMap_cons, hf 0 y rfl]
      have := ih (fun i => f (i + 1)) fun i x e => hf (i + 1) x e
      cases h y with
      | none => simpa using this
      | some z => simpa using this
  exact key L _ fun i x e => by unfold compF; rw [e]; rfl
theorem compF_step {α : Type} {g : α → Dat} {L : List α} {h : α → Option Dat} (hds : ds = L.map g)
    (hs : ∀ x ∈ L, ∀ (Py : Dat → Prop) (N : Prop), (∀ y, h x = some y → Py y) → (h x = none → N) → CStep mg mt me env (g x) Py N) :
    ∀ (i : Nat) (d : Dat), ds[i]? = some d → CStep mg mt me env d (fun y => compF L h i d = some y) (compF L h i d = none) := by
  subst hds
  intro i d hd
  obtain ⟨x, e, rfl⟩ := map_get hd
  refine hs x (List.mem_of_getElem? e) _ _ (fun y hy => ?_) (fun hy => ?_) <;> (unfold compF; rw [e]; exact hy)
/-- .. all of them are taken -/
def mapF {α : Type} (L : List α) (h : α → Dat) : Nat → Dat → Option Dat := compF L fun x => some (h x)
theorem mapF_eq {α : Type} {g : α → Dat} {L : List α} {h : α → Dat} : ((L.map g).mapIdx (mapF L h)).filterMap id = L.map h := by
  unfold mapF
  rw [compF_eq]
  rw [List.filterMap_eq_map']
theorem mapF_step {α : Type} {g : α → Dat} {L : List α} {h : α → Dat} (hds : ds = L.map g)
    (hs : ∀ x ∈ L, ∀ (Py : Dat → Prop) (N : Prop), Py (h x) → CStep mg mt me env (g x) Py N) :
    ∀ (i : Nat) (d : Dat), ds[i]? = some d → CStep mg mt me env d (fun y => mapF L h i d = some y) (mapF L h i d = none) :=
  compF_step hds fun x hx Py N h1 _ => hs x hx Py N (h1 _ rfl)
theorem filterMap_if {α β : Type} {p : α → Bool} {h : α → β} : ∀ L : List α, L.filterMap (fun x => if p x = true then some (h x) else none) = (L.filter p).map h
  | [] => rfl
  | x :: r => by
    rw [List.filterMap_cons, List.filter_cons]
    by_cases e : p x = true
    · rw [if_pos e, if_pos e, List.map_cons, ← filterMap_if r]
    · rw [if_neg e, if_neg e, ← filterMap_if r]
/-- .. those that are p -/
def filF {α : Type} (L : List α) (p : α → Bool) (h : α → Dat) : Nat → Dat → Option Dat := compF L fun x => if p x = true then some (h x) else none
theorem filF_eq {α : Type} {g : α → Dat} {L : List α} {p : α → Bool} {h : α → Dat} : ((L.map g).mapIdx (filF L p h)).filterMap id = (L.filter p).map h := by
  unfold filF
  rw [compF_eq]
  exact filterMap_if L
theorem filF_step {α : Type} {g : α → Dat} {L : List α} {p : α → Bool} {h : α → Dat} (hds : ds = L.map g)
    (hs : ∀ x ∈ L, ∀ (Py : Dat → Prop) (N : Prop), (p x = true → Py (h x)) → (p x = false → N) → CStep mg mt me env (g x) Py N) :
    ∀ (i : Nat) (d : Dat), ds[i]? = some d → CStep mg mt me env d (fun y => filF L p h i d = some y) (filF L p h i d = none) :=
  compF_step hds fun x hx Py N h1 h2 => hs x hx Py N (fun e => h1 _ (by rw [if_pos e])) (fun e => h2 (by rw [if_neg (by rw [e]; decide)]))
theorem atI_m1 {α : Type} {xs : List α} : L2.atI xs (-1) = xs.getLast? := by
  unfold L2.atI ixN
  rw [if_neg (by decide)]
  cases xs with
  | nil => rfl
  | cons x r =>
    rw [if_pos (by simp only [List.length_cons]; omega)]
    have e : (-1 + ((x :: r).length : Int)).toNat = r.length := by simp only [List.length_cons]; omega
    rw [e, List.getLast?_eq_getElem?]
    rfl
theorem atI_mapN {α : Type} {g : α → Dat} {L : List α} {k : Nat} {x : α} (h : L[k]? = some x) : L2.atI (L.map g) (k : Int) = some (g x) := atI_nat (by rw [List.getElem?_map, h]; rfl)
end
/-! max and min of three -/
def mMM3 (f : Int → Int → Int) (ds : List Dat) (P : Dat → Prop) : Prop := match ds with
  | [.int i, .int j, .int k] => P (.int (f (f i j) k))
  | _ => False
theorem mMM3_e (f : Int → Int → Int) (ds : List Dat) (P : Dat → Prop) : mMM3 f ds P = (match ds with
  | [.int i, .int j, .int k] => P (.int (f (f i j) k))
  | _ => False) := rfl
theorem nu2max (i j : Int) : nuMax2 (.int i) (.int j) = some (.int (max i j)) := by
  show Option.map (fun c => if c = true then V.int j else V.int i) (some (decide (i < j))) = _
  by_cases h : i < j
  · rw [decide_eq_true h]; simp; omega
  · rw [decide_eq_false h]; simp; omega
theorem nu2min (i j : Int) : nuMin2 (.int i) (.int j) = some (.int (min i j)) := by
  show Option.map (fun c => if c = true then V.int j else V.int i) (some (decide (j < i))) = _
  by_cases h : j < i
  · rw [decide_eq_true h]; simp; omega
  · rw [decide_eq_false h]; simp; omega
section
variable {K : PySem.W.Frag}
theorem sb_max3 : SimB K (rNuC3 nuMax3) (mMM3 max) := fun H vs ds P r hm Q q => by
  unfold mMM3 at hm
  split at hm
  · cases r with
    | cons h r =>
      cases r with
      | cons h2 r =>
        cases r with
        | cons h3 r =>
          cases r
          cases h
          cases h2
          cases h3
          exact ⟨_, _, _, _, rfl, by unfold nuMax3; rw [nu2max]; exact nu2max _ _, q _ _ H hm (Ex.refl H) fun _ => .int _⟩
  · exact hm.elim
theorem sb_min3 : SimB K (rNuC3 nuMin3) (mMM3 min) := fun H vs ds P r hm Q q => by
  unfold mMM3 at hm
  split at hm
  · cases r with
    | cons h r =>
      cases r with
      | cons h2 r =>
        cases r with
        | cons h3 r =>
          cases r
          cases h
          cases h2
          cases h3
          exact ⟨_, _, _, _, rfl, by unfold nuMin3; rw [nu2min]; exact nu2min _ _, q _ _ H hm (Ex.refl H) fun _ => .int _⟩
  · exact hm.elim
end
theorem if_max {i j : Int} : (if j > i then j else i) = max i j := by split <;> omega
theorem if_min {i j : Int} : (if j < i then j else i) = min i j := by split <;> omega
/-! looking into typed lists -/
def getI (ns : List Int) (i : Int) : Int := (L2.atI ns i).getD 0
theorem atI_map {α : Type} {g : α → Dat} {L : List α} {i : Int} : L2.atI (L.map g) i = (L2.atI L i).map g := by
  unfold L2.atI
  rw [List.length_map]
  cases ixN L.length i with
  | none => rfl
  | some j => exact List.getElem?_map ..
theorem at_map_e {α : Type} {g : α → Dat} {L : List α} {i : Int} {F : Dat → Prop} : (∃ d, L2.atI (L.map g) i = some d ∧ F d) = ∃ x, L2.atI L i = some x ∧ F (g x) := by
  rw [atI_map]
  apply propext
  constructor
  · rintro ⟨d, h, k⟩
    cases e : L2.atI L i with
    | none => rw [e] at h; cases h
    | some x => rw [e] at h; cases h; exact ⟨x, rfl, k⟩
  · rintro ⟨x, h, k⟩
    exact ⟨_, by rw [h]; rfl, k⟩
theorem at_ints_e {ns : List Int} {i : Int} {F : Dat → Prop} : (∃ d, L2.atI (intsD ns) i = some d ∧ F d) = ((-(ns.length : Int) ≤ i ∧ i < ns.length) ∧ F (.int (getI ns i))) := by
  show (∃ d, L2.atI (ns.map Dat.int) i = some d ∧ F d) = _
  rw [at_map_e]
  have key : (-(ns.length : Int) ≤ i ∧ i < ns.length) ↔ ∃ x, L2.atI ns i = some x := by
    unfold L2.atI ixN
    constructor
    · rintro ⟨a, b⟩
      split
      · exact ⟨_, List.getElem?_eq_getElem (i := i.toNat) (by omega)⟩
      · exact ⟨_, List.getElem?_eq_getElem (i := (i + (ns.length : Int)).toNat) (by omega)⟩
    · rintro ⟨x, h⟩
      split at h
      · split at h
        · omega
        · cases h
      · split at h
        · omega
        · cases h
  apply propext
  rw [key]
  constructor
  · rintro ⟨x, h, k⟩
    refine ⟨⟨x, h⟩, ?_⟩
    unfold getI
    rw [h]
    exact k
  · rintro ⟨⟨x, h⟩, k⟩
    unfold getI at k
    rw [h] at k
    exact ⟨x, h, k⟩
theorem getI_nat {ns : List Int} (k : Nat) : getI ns (k : Int) = ns.getD k 0 := by
  unfold getI L2.atI ixN
  rw [if_pos (by omega)]
  by_cases h : k < ns.length
  · rw [if_pos (by omega)]
    show (ns[((k : Int)).toNat]?).getD 0 = _
    rw [Int.toNat_natCast, List.getD_eq_getElem?_getD]
  · rw [if_neg (by omega), List.getD_eq_getElem?_getD, List.getElem?_eq_none (by omega)]
    rfl
theorem getI_lit {ns : List Int} (n : Nat) : getI ns (@OfNat.ofNat Int n instOfNat) = ns.getD n 0 := getI_nat n
/-- a display, at a place that is not known -/
theorem at_disp {α : Type} {g : α → Dat} {ds : List Dat} {i : Int} {F : Dat → Prop} (L : List α) (hd : ds = L.map g) (h0 : 0 ≤ i) (h1 : i < L.length) (k : ∀ x, L[i.toNat]? = some x → F (g x)) : ∃ d, L2.atI ds i = some d ∧ F d := by
  subst hd
  rw [at_map_e]
  have e : L[i.toNat]? = some (L[i.toNat]'(by omega)) := List.getElem?_eq_getElem (by omega)
  refine ⟨_, ?_, k _ e⟩
  have : L2.atI L ((i.toNat : Nat) : Int) = some (L[i.toNat]'(by omega)) := atI_nat e
  rwa [Int.toNat_of_nonneg h0] at this
theorem bl_of {P : Dat → Prop} {c : Bool} (q : P (.bl c)) (b : Bool) (h : b = true ↔ c = true) : P (.bl b) := (Bool.eq_iff_iff.mpr h) ▸ q
theorem int_of {P : Dat → Prop} {c : Int} (q : P (.int c)) (b : Int) (h : b = c) : P (.int b) := h ▸ q
theorem getI_0 {ns : List Int} : getI ns 0 = ns.getD 0 0 := getI_lit 0
theorem getI_1 {ns : List Int} : getI ns 1 = ns.getD 1 0 := getI_lit 1
theorem getI_2 {ns : List Int} : getI ns 2 = ns.getD 2 0 := getI_lit 2
theorem getI_3 {ns : List Int} : getI ns 3 = ns.getD 3 0 := getI_lit 3
theorem getI_4 {ns : List Int} : getI ns 4 = ns.getD 4 0 := getI_lit 4
theorem getI_5 {ns : List Int} : getI ns 5 = ns.getD 5 0 := getI_lit 5
theorem getI_6 {ns : List Int} : getI ns 6 = ns.getD 6 0 := getI_lit 6
theorem getI_7 {ns : List Int} : getI ns 7 = ns.getD 7 0 := getI_lit 7
theorem cutG_map {α : Type} {g : α → Dat} {L : List α} {a b : Option Int} : cutG (L.map g) a b = (cutG L a b).map g := by
  unfold cutG
  rw [List.length_map, List.map_take, List.map_drop]
theorem cutG_ints {ns : List Int} {a b : Option Int} : cutG (intsD ns) a b = intsD (cutG ns a b) := cutG_map
theorem cutG_len {α : Type} {L : List α} {a b : Option Int} : (cutG L a b).length ≤ L.length := by
  unfold cutG
  rw [List.length_take, List.length_drop]
  omega
theorem len_map {α : Type} {g : α → Dat} {L : List α} : (L.map g).length = L.length := List.length_map _
theorem map_app1 {α : Type} {g : α → Dat} {L : List α} {x : α} : L.map g ++ [g x] = (L ++ [x]).map g := by rw [List.map_append]; rfl
theorem plains_map {α : Type} {g : α → Dat} (hg : ∀ x, (g x).plain = true) : ∀ L : List α, Dat.plains (L.map g) = true
  | [] => rfl
  | x :: r => by
    show ((g x).plain && Dat.plains (r.map g)) = true
    rw [hg x, plains_map hg r]
    rfl
theorem deps_map {α : Type} {g : α → Dat} {n : Nat} (hg : ∀ x, (g x).dep ≤ n) : ∀ L : List α, Dat.deps (L.map g) ≤ n
  | [] => Nat.zero_le _
  | x :: r => Nat.max_le.mpr ⟨hg x, deps_map hg r⟩
theorem shape_list {α : Type} {g : α → Dat} (hg : ∀ x, (g x).plain = true ∧ (g x).dep ≤ 60) (L : List α) : (Dat.list (L.map g)).plain = true ∧ (Dat.list (L.map g)).dep ≤ 64 :=
  ⟨plains_map (fun x => (hg x).1) L, Nat.le_trans (Nat.add_le_add_right (deps_map (fun x => (hg x).2) L) 1) (by decide)⟩
theorem shape_tup {α : Type} {g : α → Dat} (hg : ∀ x, (g x).plain = true ∧ (g x).dep ≤ 60) (L : List α) : (Dat.tup (L.map g)).plain = true ∧ (Dat.tup (L.map g)).dep ≤ 64 :=
  ⟨plains_map (fun x => (hg x).1) L, Nat.le_trans (Nat.add_le_add_right (deps_map (fun x => (hg x).2) L) 1) (by decide)⟩
theorem atI_natL {α : Type} {xs : List α} (n : Nat) : L2.atI xs (n : Int) = xs[n]? := by
  unfold L2.atI ixN
  rw [if_pos (by omega)]
  by_cases h : n < xs.length
  · rw [if_pos (by omega)]
    simp
  · rw [if_neg (by omega), List.getElem?_eq_none (by omega)]
    rfl
/-! the law's own def -/
def spLaw (K : PySem.W.Frag) : Sp := fun vs H Q _ => ∃ (a : Addr) (ns : List Int), vs = [.ref a] ∧ SqL K H a (ns.map V.int) ∧ ns.length ≤ 63 ∧ ∀ H', Q (.bl true) H'
def ps_lawT : PSp := fun ds P _ => ∃ ns : List Int, ds = [.list (intsD ns)] ∧ ns.length ≤ 63 ∧ P (.bl true)
theorem spLaw_len {K : PySem.W.Frag} {vs : List V} {H : Hp} {Q : VK} {E : XK} (h : spLaw K vs H Q E) : vs.length = 1 := by
  obtain ⟨a, ns, rfl, _⟩ := h
  rfl
theorem spLaw_D {K : PySem.W.Frag} {vs : List V} {H : Hp} {Q : VK} {E : XK} (h : spLaw K vs H Q E) : spD K ps_lawT vs H Q E := by
  obtain ⟨a, ns, rfl, hS, hl, q⟩ := h
  refine ⟨[], [.list (intsD ns)], fun d => d = .bl true, fun _ => False, fun q h => absurd h List.not_mem_nil, ?_, ⟨ns, rfl, hl, rfl⟩, fun v d H' hd _ r => ?_, fun _ _ h => h.elim⟩
  · rw [era_nil]
    exact .cons (.list hS (RpL.flat (fun i => .int i) ns)) .nil
  · subst hd
    cases r
    exact q H'
end GR

namespace GR
open PySem PySem.Spec PyProof.Rows L2 Evl
def top (i : Nat) : Stmt := PySem.Challenge.pw_gatesread_k85_value_at.main.body.getD i (.Pass ⟨0, 0, 0, 0⟩)
abbrev s_value_at : Stmt := top 1
abbrev s_law_cell : Stmt := top 3
abbrev s_law_parts : Stmt := top 4
abbrev s_law_is_integer : Stmt := top 5
abbrev s_law : Stmt := top 6
theorem sc_value_at : FnScope ["wave", "time", "start", "value"] ["wave", "time"] (defScope s_value_at) := ⟨rfl, rfl, rfl, by decide +kernel, rfl, by decide +kernel, by decide +kernel⟩
theorem sc_law_cell : FnScope ["script", "k"] ["script", "k"] (defScope s_law_cell) := ⟨rfl, rfl, rfl, by decide +kernel, rfl, by decide +kernel, by decide +kernel⟩
theorem sc_law_parts : FnScope ["cell", "sizes", "parts", "rest", "k", "mixed"] ["cell", "sizes"] (defScope s_law_parts) := ⟨rfl, rfl, rfl, by decide +kernel, rfl, by decide +kernel, by decide +kernel⟩
theorem sc_law_is_integer : FnScope ["actual"] ["actual"] (defScope s_law_is_integer) := ⟨rfl, rfl, rfl, by decide +kernel, rfl, by decide +kernel, by decide +kernel⟩
theorem sc_law : FnScope ["script", "head", "wave", "cell", "parts", "later", "passed", "k", "times", "values", "n", "actual"] ["script"] (defScope s_law) := ⟨rfl, rfl, rfl, by decide +kernel, rfl, by decide +kernel, by decide +kernel⟩
structure A where
  f_value_at : Addr
  d_value_at : FuncData
  f_law_cell : Addr
  d_law_cell : FuncData
  f_law_parts : Addr
  d_law_parts : FuncData
  f_law_is_integer : Addr
  d_law_is_integer : FuncData
  f_law : Addr
  d_law : FuncData
structure Top (K : PySem.W.Frag) (mg : Str → Option Value) (w : World) (a : A) : Prop where
  F_value_at : Fun K "value_at" "value_at" s_value_at a.f_value_at a.d_value_at
  b_value_at : Binds K a.d_value_at ["wave", "time"] []
  g_value_at : mg "value_at" = some (.ref a.f_value_at)
  F_law_cell : Fun K "_law_cell" "_law_cell" s_law_cell a.f_law_cell a.d_law_cell
  b_law_cell : Binds K a.d_law_cell ["script", "k"] []
  g_law_cell : mg "_law_cell" = some (.ref a.f_law_cell)
  F_law_parts : Fun K "_law_parts" "_law_parts" s_law_parts a.f_law_parts a.d_law_parts
  b_law_parts : Binds K a.d_law_parts ["cell", "sizes"] []
  g_law_parts : mg "_law_parts" = some (.ref a.f_law_parts)
  F_law_is_integer : Fun K "_law_is_integer" "_law_is_integer" s_law_is_integer a.f_law_is_integer a.d_law_is_integer
  b_law_is_integer : Binds K a.d_law_is_integer ["actual"] []
  g_law_is_integer : mg "_law_is_integer" = some (.ref a.f_law_is_integer)
  F_law : Fun K "law" "law" s_law a.f_law a.d_law
  b_law : Binds K a.d_law ["script"] []
  g_law : mg "law" = some (.ref a.f_law)
  z_bool : mg "bool" = none
  z_int : mg "int" = none
  z_isinstance : mg "isinstance" = none
  z_len : mg "len" = none
  z_list : mg "list" = none
  z_range : mg "range" = none
section
variable {P : Program} {w : World} {K : PySem.W.Frag} {mg : Str → Option Value} {base : Heap} {a : A}
theorem intsD_len {ns : List Int} : (intsD ns).length = ns.length := List.length_map _
theorem intsD_nil : ([] : List Dat) = intsD [] := rfl
theorem intsD_cons {n : Int} {ns : List Int} : Dat.int n :: intsD ns = intsD (n :: ns) := rfl
theorem intsD_app {n : Int} {ns : List Int} : intsD ns ++ [Dat.int n] = intsD (ns ++ [n]) := by unfold intsD; rw [List.map_append]; rfl
theorem intsD_inj : ∀ {a b : List Int}, intsD a = intsD b → a = b
  | [], [], _ => rfl
  | [], _ :: _, h => by cases h
  | _ :: _, [], h => by cases h
  | x :: a, y :: b, h => by
    have h2 : Dat.int x :: intsD a = Dat.int y :: intsD b := h
    injection h2 with h3 h4
    injection h3 with h5
    rw [h5, intsD_inj h4]
theorem atI_lit {α : Type} {xs : List α} (n : Nat) : L2.atI xs (@OfNat.ofNat Int n instOfNat) = xs[(@OfNat.ofNat Nat n (instOfNatNat n))]? := by
  show L2.atI xs (n : Int) = xs[n]?
  unfold L2.atI ixN
  by_cases h : n < xs.length
  · rw [if_pos (by omega), if_pos (by omega)]
    simp
  · rw [if_pos (by omega), if_neg (by omega), List.getElem?_eq_none (by omega)]
    rfl
theorem atI_0 {α : Type} {xs : List α} : L2.atI xs 0 = xs[0]? := atI_lit 0
theorem atI_1 {α : Type} {xs : List α} : L2.atI xs 1 = xs[1]? := atI_lit 1
theorem atI_2 {α : Type} {xs : List α} : L2.atI xs 2 = xs[2]? := atI_lit 2
theorem atI_3 {α : Type} {xs : List α} : L2.atI xs 3 = xs[3]? := atI_lit 3
theorem atI_4 {α : Type} {xs : List α} : L2.atI xs 4 = xs[4]? := atI_lit 4
theorem atI_5 {α : Type} {xs : List α} : L2.atI xs 5 = xs[5]? := atI_lit 5
theorem atI_6 {α : Type} {xs : List α} : L2.atI xs 6 = xs[6]? := atI_lit 6
theorem atI_7 {α : Type} {xs : List α} : L2.atI xs 7 = xs[7]? := atI_lit 7
theorem atI_8 {α : Type} {xs : List α} : L2.atI xs 8 = xs[8]? := atI_lit 8
theorem atI_9 {α : Type} {xs : List α} : L2.atI xs 9 = xs[9]? := atI_lit 9
theorem atI_natG {α : Type} {xs : List α} (n : Nat) : L2.atI xs (n : Int) = xs[n]? := atI_lit n
theorem atI_last {α : Type} {xs : List α} {x : α} : L2.atI (xs ++ [x]) (-1) = some x := by
  unfold L2.atI ixN
  rw [if_neg (by decide), if_pos (by rw [List.length_append, List.length_singleton]; omega)]
  have e : (-1 + ((xs ++ [x]).length : Int)).toNat = xs.length := by rw [List.length_append, List.length_singleton]; omega
  rw [e]
  show (xs ++ [x])[xs.length]? = some x
  rw [List.getElem?_append_right (Nat.le_refl _), Nat.sub_self]
  rfl
theorem eqF_int {i j : Int} : eqF (.int i) (.int j) = decide (i = j) := by
  show (i == j) = _
  rw [Bool.eq_iff_iff]
  simp
theorem eqF_str {i j : Str} : eqF (.str i) (.str j) = decide (i = j) := by
  show (i == j) = _
  rw [Bool.eq_iff_iff]
  simp
theorem cdiv_of {i j : Int} (h : 0 < j) (h2 : j < 2 ^ 63) : CDivW i j := wide_div (b := 64) h (by omega) (by decide) (by decide)
theorem cmul_r {i j : Int} (h : -(2 ^ 64) < j ∧ j < 2 ^ 64) : CMul i j := .inr h
theorem cmul_l {i j : Int} (h : -(2 ^ 64) < i ∧ i < 2 ^ 64) : CMul i j := .inl h
theorem natAbs_10 : Int.natAbs 10 = 10 := rfl
theorem natAbs_2 : Int.natAbs 2 = 2 := rfl
/-! ### the pure reading, opened -/
local macro_rules | `(tactic| walk_at "vc") => `(tactic| simp only [startE, List.map_cons, List.map_nil, List.length_cons, List.length_nil, Nat.zero_add, Nat.reduceAdd, Nat.reduceSub, List.replicate_succ, List.replicate_zero, List.cons_append, List.nil_append,
  ↓mVar_e, ↓mAny_e, ↓mC_e, ↓mFlat_e, ↓mOp_e, ↓mII_e, ↓mIB_e, ↓mIIC_e, ↓mCatS_e, ↓mRepS_e, ↓mEq_e, ↓mNe_e, ↓mIsN_e, ↓mIn_e, ↓mInS_e, ↓mEqD_e, ↓mNeD_e, ↓mIxL_e, ↓mIxT_e, ↓mIxS_e, ↓mTab_e, ↓mDGet_e, ↓mDIn_e, ↓mDGet2_e, ↓mNil_e, ↓mCons_e, ↓mLst_e, ↓mTup_e, ↓mDNew_e, ↓mCatL_e, ↓mRepL_e, ↓mNoPart_e, ↓mPart_e, ↓mSlL_e, ↓mSlS_e, ↓mSlT_e, ↓mCatT_e, ↓mCB_e, ↓mLen_e, ↓mLenS_e, ↓mLenD_e, ↓mInt_e, ↓mBool_e, ↓mStrI_e, ↓mMM_e, ↓mMM3_e, ↓mI1_e, ↓mSum_e, ↓mMax_e, ↓mMin_e, ↓mAll_e, ↓mAnyB_e, ↓mListOf_e, ↓mTupOf_e, ↓mSorted_e, ↓mIsi_e, ↓mNeg_e, ↓mTest_e, ↓mAndT_e, ↓mOrT_e, ↓mNotT_e, ↓mYes_e, ↓mAndV_e, ↓mOrV_e, ↓mNotV_e, ↓mIfE_e, ↓mChain_e, ↓mTru_e, ↓mCall_e, ↓mGN_e, ↓mGNil_e, ↓mGCons_e, ↓mGT_e, ↓mItL_e, ↓mItT_e, ↓mRng1_e, ↓mRng2_e, ↓mItS_e, ↓mEnum_e, ↓mZip_e, ↓mLc_e, ↓mDc_e, ↓mNext_e, ↓mBrk_e, ↓mCnt_e, ↓mSeq_e, ↓mCut_e, ↓mIf_e, ↓mAsg_e, ↓mAsgF_e, ↓mAug_e, ↓mDrop_e, ↓mRet_e, ↓mRetO_e, ↓mApp_e, ↓mPop_e, ↓mPopD_e, ↓mPopAt_e, ↓mSetL_e, ↓mDPut_e, ↓mRev_e, ↓mExt_e, ↓mFrz_e, ↓mFor_e, ↓mWhile_e, ↓mFmt_e, ↓mFmtR_e, ↓mJoin_e, ↓mRaise_e, ↓mRaise0_e,
  frzE, mJs, itemsD, keyD, isTy, tyD, truD, Dat.flat, wipeE,
  List.set_cons_zero, List.set_cons_succ, List.getElem?_cons_zero, List.getElem?_cons_succ, Bool.not_true, Bool.not_false, if_true, if_false, ite_true, ite_false, Bool.false_eq_true, true_and, and_true, reduceIte, decide_eq_true_eq, decide_eq_false_iff_not, Bool.not_eq_true', Bool.or_eq_true, Bool.and_eq_true, intsD_len, intsD_cons, intsD_app, exists_eq_left', exists_eq_left, Option.some.injEq, List.all_cons, List.all_nil, List.any_cons, List.any_nil, Nat.zero_le, Int.toNat_natCast, rngD_len, if_max, if_min, Int.zero_add, ↓at_ints_e, ↓at_map_e, getI_nat, getI_0, getI_1, getI_2, getI_3, getI_4, getI_5, getI_6, getI_7, String.reduceBEq, atI_m1, atI_0, atI_1, atI_2, atI_3, atI_4, atI_5, atI_6, atI_7, atI_8, atI_9, eqF_int, eqF_str, Bool.or_false, Bool.or_eq_false_iff, Nat.reduceLeDiff])
/-- .. of a loop's or a comprehension's turn, of what follows -/
local macro_rules | `(tactic| walk_at "vo") => `(tactic| (first | unfold FStep | unfold CStep | unfold DStep | unfold WStep | unfold Aft); walk_at "vc")

/-! ### _law_cell -/
def cellI (ns : List Int) (j : Int) : Int := cellOf ns j.toNat
theorem atI_ints {ns : List Int} {k : Nat} (h : k < ns.length) : L2.atI (intsD ns) (k : Int) = some (.int (ns.getD k 0)) := by
  have e : (intsD ns)[k]? = some (.int (ns.getD k 0)) := by
    unfold intsD
    rw [List.getElem?_map, List.getElem?_eq_getElem h, List.getD_eq_getElem?_getD, List.getElem?_eq_getElem h]
    rfl
  exact atI_nat e
def ps_law_cell0 (a : A) : PSp := fun ds P _ => ∃ (ns : List Int) (j : Int), ds = [.list (intsD ns), .int j] ∧ 0 ≤ j ∧ P (.int (cellI ns j))
def ps_law_cell (a : A) : PSp := ps_law_cell0 a
theorem ps_law_cell_e {a : A} {ns : List Int} {j : Int} {P : Dat → Prop} {X : Value → Prop} : ps_law_cell a [.list (intsD ns), .int j] P X = (0 ≤ j ∧ P (.int (cellI ns j))) := by
  apply propext
  constructor
  · rintro ⟨ms, k, e, h, q⟩
    injection e with e1 e2
    injection e1 with e1
    injection e2 with e2
    injection e2 with e2
    subst e2
    rw [intsD_inj e1]
    exact ⟨h, q⟩
  · rintro ⟨h, q⟩
    exact ⟨ns, j, rfl, h, q⟩
-- walk: ↓ps_law_cell_e
theorem ok_law_cell (T : Top K mg w a) : FnOk P w K mg base CX0 1 a.f_law_cell a.d_law_cell ["script", "k"] (spD K (ps_law_cell a)) := by
  refine T.F_law_cell.ok sc_law_cell (fun vs H Q E h => spD_len h ?_) (fun cdv A outer s H vs Q E hr h => ?_)
  rotate_left
  refine ⟨_, (pss_cons (ps_if (pt_cmpR op_lt (pv 1) (pe_callB call_len_seq (by rfl) T.z_len (by decide +kernel) (pa_cons (pv 0) pa_nil)) (nomark _))
      (pss_one (ps_ret (pe_ix ix_list (pv 0) (pv 1) (fun _ _ => rfl))))
      pss_nil)
      (pss_one (ps_ret pe_int))), ?_⟩
  refine run_D (fun S0 X hX => (ss_seq (ss_if (st_test (sm_op sr_ib (sm_var (i := 1)) (sm_cb sb_len (sa_cons (sm_var (i := 0)) sa_nil))))
      (ss_ret (sm_ixL (sm_var (i := 0)) (sm_var (i := 1))))
      ss_next)
      (ss_ret sm_int))) h ?_
  · rintro ds P X ⟨ns, j, rfl, hj, q⟩
    simp only [startE, List.map_cons, List.map_nil, List.length_cons, List.length_nil, Nat.zero_add, Nat.reduceAdd, Nat.reduceSub, List.replicate_succ, List.replicate_zero, List.cons_append, List.nil_append, ↓mVar_e, ↓mAny_e, ↓mC_e, ↓mFlat_e, ↓mOp_e, ↓mII_e, ↓mIB_e, ↓mIIC_e, ↓mCatS_e, ↓mRepS_e, ↓mEq_e, ↓mNe_e, ↓mIsN_e, ↓mIn_e, ↓mInS_e, ↓mEqD_e, ↓mNeD_e, ↓mIxL_e, ↓mIxT_e, ↓mIxS_e, ↓mTab_e, ↓mDGet_e, ↓mDIn_e, ↓mDGet2_e, ↓mNil_e, ↓mCons_e, ↓mLst_e, ↓mTup_e, ↓mDNew_e, ↓mCatL_e, ↓mRepL_e, ↓mNoPart_e, ↓mPart_e, ↓mSlL_e, ↓mSlS_e, ↓mSlT_e, ↓mCatT_e, ↓mCB_e, ↓mLen_e, ↓mLenS_e, ↓mLenD_e, ↓mInt_e, ↓mBool_e, ↓mStrI_e, ↓mMM_e, ↓mMM3_e, ↓mI1_e, ↓mSum_e, ↓mMax_e, ↓mMin_e, ↓mAll_e, ↓mAnyB_e, ↓mListOf_e, ↓mTupOf_e, ↓mSorted_e, ↓mIsi_e, ↓mNeg_e, ↓mTest_e, ↓mAndT_e, ↓mOrT_e, ↓mNotT_e, ↓mYes_e, ↓mAndV_e, ↓mOrV_e, ↓mNotV_e, ↓mIfE_e, ↓mChain_e, ↓mTru_e, ↓mCall_e, ↓mGN_e, ↓mGNil_e, ↓mGCons_e, ↓mGT_e, ↓mItL_e, ↓mItT_e, ↓mRng1_e, ↓mRng2_e, ↓mItS_e, ↓mEnum_e, ↓mZip_e, ↓mLc_e, ↓mDc_e, ↓mNext_e, ↓mBrk_e, ↓mCnt_e, ↓mSeq_e, ↓mCut_e, ↓mIf_e, ↓mAsg_e, ↓mAsgF_e, ↓mAug_e, ↓mDrop_e, ↓mRet_e, ↓mRetO_e, ↓mApp_e, ↓mPop_e, ↓mPopD_e, ↓mPopAt_e, ↓mSetL_e, ↓mDPut_e, ↓mRev_e, ↓mExt_e, ↓mFrz_e, ↓mFor_e, ↓mWhile_e, ↓mFmt_e, ↓mFmtR_e, ↓mJoin_e, ↓mRaise_e, ↓mRaise0_e, frzE, mJs, itemsD, keyD, isTy, tyD, truD, Dat.flat, wipeE, List.set_cons_zero, List.set_cons_succ, List.getElem?_cons_zero, List.getElem?_cons_succ, Bool.not_true, Bool.not_false, if_true, if_false, ite_true, ite_false, Bool.false_eq_true, true_and, and_true, reduceIte, decide_eq_true_eq, decide_eq_false_iff_not, Bool.not_eq_true', Bool.or_eq_true, Bool.and_eq_true, intsD_len, intsD_cons, intsD_app, exists_eq_left', exists_eq_left, Option.some.injEq, List.all_cons, List.all_nil, List.any_cons, List.any_nil, Nat.zero_le, Int.toNat_natCast, rngD_len, if_max, if_min, Int.zero_add, ↓at_ints_e, ↓at_map_e, getI_nat, getI_0, getI_1, getI_2, getI_3, getI_4, getI_5, getI_6, getI_7, String.reduceBEq, atI_m1, atI_0, atI_1, atI_2, atI_3, atI_4, atI_5, atI_6, atI_7, atI_8, atI_9, eqF_int, eqF_str, Bool.or_false, Bool.or_eq_false_iff, Nat.reduceLeDiff, CMul, CPow, Int.reduceLT, Int.reduceLE, Int.reduceAdd, Int.reduceSub, Int.reduceMul, Int.reduceNeg, Int.reducePow, Int.reduceToNat, Int.reduceEq, Nat.reduceMul, Nat.reducePow, Nat.reduceLT, Nat.reduceEqDiff, or_true, true_or, ge_iff_le, gt_iff_lt, cdiv_of, natAbs_10, natAbs_2, List.getD_cons_zero, List.getD_cons_succ, putS, len_map, cutG_ints, cutG_map, atI_natL, ↓ps_law_cell_e]
    unfold cellI at q
    obtain ⟨k, rfl⟩ : ∃ k : Nat, j = (k : Int) := ⟨j.toNat, by omega⟩
    rw [Int.toNat_natCast] at q
    unfold cellOf at q
    split
    · rename_i h
      refine ⟨by omega, ?_⟩
      first | exact q | (rw [getI_nat]; exact q)
    · rename_i h
      rw [List.getD_eq_getElem?_getD, List.getElem?_eq_none (by omega)] at q
      exact q
  · rintro ds P X ⟨ns, j, rfl, q⟩
    rfl

/-! ### _law_parts -/
theorem draw_step {ns sizes : List Int} {i : Nat} {x : Int} (hl : ns.length = i) (h : ∀ k, k < i → 0 ≤ ns.getD k 0 ∧ ns.getD k 0 < sizes.getD k 0) (h0 : 0 ≤ x) (h1 : x < sizes.getD i 0) :
    (ns ++ [x]).length = i + 1 ∧ ∀ k, k < i + 1 → 0 ≤ (ns ++ [x]).getD k 0 ∧ (ns ++ [x]).getD k 0 < sizes.getD k 0 := by
  refine ⟨by rw [List.length_append, hl]; rfl, fun k hk => ?_⟩
  by_cases q : k < i
  · have e : (ns ++ [x]).getD k 0 = ns.getD k 0 := by
      rw [List.getD_eq_getElem?_getD, List.getElem?_append_left (by omega), ← List.getD_eq_getElem?_getD]
    rw [e]
    exact h k q
  · have e2 : k = i := by omega
    subst e2
    have e : (ns ++ [x]).getD k 0 = x := by
      rw [List.getD_eq_getElem?_getD, List.getElem?_append_right (by omega), hl, Nat.sub_self]
      rfl
    rw [e]
    exact ⟨h0, h1⟩
/-- what is drawn, told for a display -/
def DrawD : List Dat → (List Int → Prop) → Prop
  | [], K => K []
  | .int s :: l, K => (0 < s ∧ s ≤ 1000000000000000) ∧ ∀ x, 0 ≤ x → x < s → DrawD l fun xs => K (x :: xs)
  | _, _ => False
theorem drawD_run : ∀ (ss : List Int) (K : List Int → Prop), DrawD (intsD ss) K → (∀ s ∈ ss, 0 < s ∧ s ≤ 1000000000000000) ∧ ∀ ns, Draw ns ss → K ns
  | [], K, h => ⟨fun s hs => absurd hs List.not_mem_nil, fun ns hd => by
    have := hd.len
    cases ns with
    | nil => exact h
    | cons => cases this⟩
  | s :: ss, K, h => by
    have h' : (0 < s ∧ s ≤ 1000000000000000) ∧ ∀ x, 0 ≤ x → x < s → DrawD (intsD ss) fun xs => K (x :: xs) := h
    have hp : ∀ t ∈ ss, 0 < t ∧ t ≤ 1000000000000000 := (drawD_run ss _ (h'.2 0 (by omega) (by omega))).1
    refine ⟨fun t ht => (List.mem_cons.mp ht).elim (fun e => e ▸ h'.1) (hp t), fun ns hd => ?_⟩
    have hl := hd.len
    cases ns with
    | nil => cases hl
    | cons x xs =>
      have h0 := hd.at_ 0 (Nat.zero_lt_succ _)
      exact (drawD_run ss _ (h'.2 x h0.1 h0.2)).2 xs ⟨Nat.succ.inj hl, fun k hk => hd.at_ (k + 1) (Nat.succ_lt_succ hk)⟩
theorem drawD_of : ∀ (ss : List Int) (K : List Int → Prop), (∀ s ∈ ss, 0 < s ∧ s ≤ 1000000000000000) → (∀ ns, Draw ns ss → K ns) → DrawD (intsD ss) K
  | [], K, _, h => h [] ⟨rfl, fun k hk => absurd hk (Nat.not_lt_zero k)⟩
  | s :: ss, K, hp, h => by
    show (0 < s ∧ s ≤ 1000000000000000) ∧ ∀ x, 0 ≤ x → x < s → DrawD (intsD ss) fun xs => K (x :: xs)
    refine ⟨hp s List.mem_cons_self, fun x h0 h1 => drawD_of ss _ (fun t ht => hp t (List.mem_cons_of_mem _ ht)) fun ns hd => h _ ⟨by rw [List.length_cons, List.length_cons, hd.len], fun k hk => ?_⟩⟩
    cases k with
    | zero => exact ⟨h0, h1⟩
    | succ k => exact hd.at_ k (Nat.lt_of_succ_lt_succ hk)
def isIntsD : List Dat → Prop
  | [] => True
  | .int _ :: l => isIntsD l
  | _ => False
theorem isIntsD_ex : ∀ l : List Dat, isIntsD l → ∃ ns, l = intsD ns
  | [], _ => ⟨[], rfl⟩
  | .int i :: l, h => by
    obtain ⟨ns, e⟩ := isIntsD_ex l h
    exact ⟨i :: ns, by rw [e]; rfl⟩
  | .non :: _, h => h.elim
  | .bl _ :: _, h => h.elim
  | .str _ :: _, h => h.elim
  | .list _ :: _, h => h.elim
  | .tup _ :: _, h => h.elim
  | .dict _ :: _, h => h.elim
theorem isIntsD_ints : ∀ ns : List Int, isIntsD (intsD ns)
  | [] => trivial
  | _ :: ns => isIntsD_ints ns
theorem isIntsD_e {ns : List Int} : isIntsD (intsD ns) = True := eq_true (isIntsD_ints ns)
def ps_law_parts (a : A) : PSp := fun ds P _ => match ds with
  | [.int _, .list l] => l.length ≤ 1000 ∧ isIntsD l ∧ DrawD l fun xs => P (.list (xs.map Dat.int))
  | _ => False
theorem ok_law_parts (T : Top K mg w a) : FnOk P w K mg base CX0 1 a.f_law_parts a.d_law_parts ["cell", "sizes"] (spF K (ps_law_parts a)) := by
  refine T.F_law_parts.ok sc_law_parts (fun vs H Q E h => spF_len h ?_) (fun cdv A outer s H vs Q E hr h => ?_)
  rotate_left
  refine ⟨_, (pss_cons (ps_set (i := 2) sc_law_parts.nd rfl (Or.inl rfl) (pe_lst pa_nil))
      (pss_cons (ps_set (i := 3) sc_law_parts.nd rfl (Or.inl rfl) (pe_op op_sub (pv 0) (pe_op op_pow pe_int pe_int)))
      (pss_cons (ps_for PassesOwn.never rfl (pi_range1 rfl T.z_range (pa_cons (pe_callB call_len_seq (by rfl) T.z_len (by decide +kernel) (pa_cons (pv 1) pa_nil)) pa_nil)) (pg_name (i := 4) sc_law_parts.nd rfl (Or.inl rfl))
      (pss_one (ps_if (pt_cmpR op_ge (pv 3) pe_int (nomark _))
      (pss_cons (ps_expr (pe_bm PySem.F.plainAttrs_list PySem.F.slot_list_append PySem.F.type_list_append mt_append (pv 2) (pa_cons (pe_op op_mod (pe_callTy call_int1 (by rfl) T.z_int (by decide +kernel) (pa_cons (pv 3) pa_nil)) (pe_ix ix_list (pv 1) (pv 4) (fun _ _ => rfl))) pa_nil)))
      (pss_one (ps_set (i := 3) sc_law_parts.nd rfl (Or.inl rfl) (pe_op op_fdivW (pv 3) (pe_ix ix_list (pv 1) (pv 4) (fun _ _ => rfl))))))
      (pss_cons (ps_set (i := 5) sc_law_parts.nd rfl (Or.inl rfl) (pe_op op_mod (pe_callTy call_int1 (by rfl) T.z_int (by decide +kernel) (pa_cons (pe_op op_add (pe_op op_add (pe_op op_mul (pv 0) pe_int) (pe_op op_mul (pv 4) pe_int)) pe_int) pa_nil)) pe_int))
      (pss_cons (ps_set (i := 5) sc_law_parts.nd rfl (Or.inl rfl) (pe_op op_mod (pe_callTy call_int1 (by rfl) T.z_int (by decide +kernel) (pa_cons (pe_op op_add (pe_op op_add (pe_op op_mul (pv 5) (pv 5)) (pe_op op_mul pe_int (pv 4))) pe_int) pa_nil)) pe_int))
      (pss_one (ps_expr (pe_bm PySem.F.plainAttrs_list PySem.F.slot_list_append PySem.F.type_list_append mt_append (pv 2) (pa_cons (pe_op op_mod (pe_callTy call_int1 (by rfl) T.z_int (by decide +kernel) (pa_cons (pv 5) pa_nil)) (pe_ix ix_list (pv 1) (pv 4) (fun _ _ => rfl))) pa_nil)))))))))
      (pss_one (ps_ret (pv 2)))))), ?_⟩
  refine run_F (fun S0 X hX => (ss_seq (ss_asgF (i := 2) (sf_lst sa_nil))
      (ss_seq (ss_asg (sm_op sr_ii (sm_var (i := 0)) (sm_op sr_iic sm_int sm_int)) (sg_name (i := 3)))
      (ss_seq (ss_for (si_rng1 (sa_cons (sm_cb sb_len (sa_cons (sm_var (i := 1)) sa_nil)) sa_nil)) (sg_name (i := 4))
      (ss_if (st_test (sm_op sr_ib (sm_var (i := 3)) sm_int))
      (ss_seq (ss_app (i := 2) (sm_op sr_iic (sm_cb sb_int (sa_cons (sm_var (i := 3)) sa_nil)) (sm_ixL (sm_var (i := 1)) (sm_var (i := 4)))))
      (ss_asg (sm_op sr_iic (sm_var (i := 3)) (sm_ixL (sm_var (i := 1)) (sm_var (i := 4)))) (sg_name (i := 3))))
      (ss_seq (ss_asg (sm_op sr_iic (sm_cb sb_int (sa_cons (sm_op sr_ii (sm_op sr_ii (sm_op sr_iic (sm_var (i := 0)) sm_int) (sm_op sr_iic (sm_var (i := 4)) sm_int)) sm_int) sa_nil)) sm_int) (sg_name (i := 5)))
      (ss_seq (ss_asg (sm_op sr_iic (sm_cb sb_int (sa_cons (sm_op sr_ii (sm_op sr_ii (sm_op sr_iic (sm_var (i := 5)) (sm_var (i := 5))) (sm_op sr_iic sm_int (sm_var (i := 4)))) sm_int) sa_nil)) sm_int) (sg_name (i := 5)))
      (ss_app (i := 2) (sm_op sr_iic (sm_cb sb_int (sa_cons (sm_var (i := 5)) sa_nil)) (sm_ixL (sm_var (i := 1)) (sm_var (i := 4)))))))))
      (ss_retO (i := 2)))))) h ?_
  · rintro ds P X h
    unfold ps_law_parts at h
    split at h
    · rename_i c l
      obtain ⟨hlen, hi, hd⟩ := h
      obtain ⟨sizes, rfl⟩ := isIntsD_ex l hi
      obtain ⟨hpos, q⟩ := drawD_run sizes _ hd
      rw [intsD_len] at hlen
      walk_at "vc"
      refine ⟨⟨by decide, by decide, by decide⟩, by omega, fun i env => ∃ (rest : Int) (y m : Option Cel) (ns : List Int), env = [some (.dat (.int c)), some (.dat (.list (intsD sizes))), some (.own (.list (intsD ns))), some (.dat (.int rest)), y, m] ∧ ns.length = i ∧ ∀ k, k < i → 0 ≤ ns.getD k 0 ∧ ns.getD k 0 < sizes.getD k 0, ⟨_, _, _, [], rfl, rfl, fun k hk => absurd hk (Nat.not_lt_zero k)⟩, ?_, ?_⟩
      · rintro i d env1 hd ⟨rest, y, m, ns, rfl, hl, hdr⟩
        obtain ⟨hi, rfl⟩ := rngD_get hd
        have hsz : 0 < sizes.getD i 0 ∧ sizes.getD i 0 ≤ 1000000000000000 := hpos _ (by
          rw [List.getD_eq_getElem?_getD, List.getElem?_eq_getElem hi]
          exact List.getElem_mem hi)
        walk_at "vo"
        split
        · refine ⟨by omega, hsz.1, by omega, by omega, cdiv_of hsz.1 (by omega), ?_⟩
          obtain ⟨g1, g2⟩ := draw_step hl hdr (Int.emod_nonneg rest (by omega)) (Int.emod_lt_of_pos rest hsz.1)
          exact ⟨_, _, _, _, rfl, g1, g2⟩
        · refine ⟨.inr (by decide), .inr (by decide), by decide, ?_⟩
          have m1 : 0 ≤ (c * 48271 + (i : Int) * 69621 + 11) % 2147483647 := Int.emod_nonneg _ (by decide)
          have m2 : (c * 48271 + (i : Int) * 69621 + 11) % 2147483647 < 2147483647 := Int.emod_lt_of_pos _ (by decide)
          generalize (c * 48271 + (i : Int) * 69621 + 11) % 2147483647 = mx at m1 m2 ⊢
          refine ⟨.inl (by omega), .inl (by decide), by decide, by omega, hsz.1, by omega, ?_⟩
          generalize (mx * mx + 16807 * (i : Int) + 5) % 998244353 = my
          obtain ⟨g1, g2⟩ := draw_step hl hdr (Int.emod_nonneg my (by omega)) (Int.emod_lt_of_pos my hsz.1)
          exact ⟨_, _, _, _, rfl, g1, g2⟩
      · rintro env1 ⟨rest, y, m, ns, rfl, hl, hdr⟩
        walk_at "vo"
        exact q ns ⟨hl, fun k hk => hdr k hk⟩
    · exact h.elim
  · intro ds P X h
    unfold ps_law_parts at h
    split at h
    · rfl
    · exact h.elim
-- walk: DrawD, isIntsD, isIntsD_e

/-! ### _law_is_integer -/
def ps_law_is_integer (a : A) : PSp := fun ds P _ => match ds with
  | [.int _] => P (.bl true)
  | _ => False
theorem ok_law_is_integer (T : Top K mg w a) : FnOk P w K mg base CX0 1 a.f_law_is_integer a.d_law_is_integer ["actual"] (spD K (ps_law_is_integer a)) := by
  refine T.F_law_is_integer.ok sc_law_is_integer (fun vs H Q E h => spD_len h ?_) (fun cdv A outer s H vs Q E hr h => ?_)
  rotate_left
  refine ⟨_, (pss_one (ps_ret (pe_and (pe_callB call_isi (by rfl) T.z_isinstance (by decide +kernel) (pa_cons (pv 0) (pa_cons (pe_bltn (v := .ty "int") (by rfl) T.z_int (by decide +kernel) rfl) pa_nil))) (pe_one (pe_not (pe_callB call_isi (by rfl) T.z_isinstance (by decide +kernel) (pa_cons (pv 0) (pa_cons (pe_bltn (v := .ty "bool") (by rfl) T.z_bool (by decide +kernel) rfl) pa_nil)))))))), ?_⟩
  refine run_D (fun S0 X hX => (ss_ret (sm_andV (sm_isi (T := "int") (sm_var (i := 0))) (sm_notV (sm_isi (T := "bool") (sm_var (i := 0))))))) h ?_
  · rintro ds P X h
    unfold ps_law_is_integer at h
    split at h
    · walk_at "vc"
      exact h
    · exact h.elim
  · rintro ds P X h
    unfold ps_law_is_integer at h
    split at h
    · rfl
    · exact h.elim

/-! ### waves -/
def pairD (p : Int × Int) : Dat := .tup [.int p.1, .int p.2]
theorem pairD_e (p : Int × Int) : pairD p = .tup [.int p.1, .int p.2] := rfl
-- walk: pairD_e
/-- the value of a wave at a time -/
def atW (w : List (Int × Int)) (t : Int) : Option Int := ((w.filter fun p => decide (p.1 ≤ t)).map (·.2)).getLast?
def ps_value_at (a : A) : PSp := fun ds P _ => ∃ (w : List (Int × Int)) (t v : Int), ds = [.list (w.map pairD), .int t] ∧ w.length ≤ 50000 ∧ atW w t = some v ∧ P (.int v)
theorem ok_value_at (T : Top K mg w a) : FnOk P w K mg base CX0 1 a.f_value_at a.d_value_at ["wave", "time"] (spD K (ps_value_at a)) := by
  refine T.F_value_at.ok sc_value_at (fun vs H Q E h => spD_len h ?_) (fun cdv A outer s H vs Q E hr h => ?_)
  rotate_left
  refine ⟨_, (pss_one (ps_ret (pe_ix ix_list (pe_lc (own := [("start", 2), ("value", 3)]) (by rfl) sc_value_at.nd (pi_list (pv 0)) (blkOk_by (own := [("start", 2), ("value", 3)]) (N := ["wave", "time", "start", "value"]) (sc := defScope s_value_at) (by decide +kernel)) (fun _ _ _ _ _ => (pgK (n := 2) (K := K) (pg_tup rfl (pgs_cons (pg_name (i := 2) sc_value_at.nd rfl (Or.inl rfl) (hf := .inr rfl)) (pgs_cons (pg_name (i := 3) sc_value_at.nd rfl (Or.inl rfl) (hf := .inr rfl)) pgs_nil))) rfl)) (fun _ _ _ _ _ => pts_one (pt_cmpR op_le (pv 2) (pv 1) (nomark _))) (fun _ _ _ _ _ => (pv 3))) (pe_un un_neg pe_int) (fun _ _ => rfl)))), ?_⟩
  refine run_D (fun S0 X hX => (ss_ret (sm_ixL (sm_new (sf_lc (js := ([2] ++ ([3] ++ []))) (by decide) (si_listC (sm_var (i := 0))) (sg_tup (n := 2) (sg_cons (sg_name (i := 2)) (sg_cons (sg_name (i := 3)) sg_nil))) ((st_test (sm_op sr_ib (sm_var (i := 2)) (sm_var (i := 1))))) (sm_var (i := 3)))) (sm_neg sm_int)))) h ?_
  · rintro ds P X ⟨w, t, v, rfl, hl, hv, q⟩
    simp only [startE, List.map_cons, List.map_nil, List.length_cons, List.length_nil, Nat.zero_add, Nat.reduceAdd, Nat.reduceSub, List.replicate_succ, List.replicate_zero, List.cons_append, List.nil_append, ↓mVar_e, ↓mAny_e, ↓mC_e, ↓mFlat_e, ↓mOp_e, ↓mII_e, ↓mIB_e, ↓mIIC_e, ↓mCatS_e, ↓mRepS_e, ↓mEq_e, ↓mNe_e, ↓mIsN_e, ↓mIn_e, ↓mInS_e, ↓mEqD_e, ↓mNeD_e, ↓mIxL_e, ↓mIxT_e, ↓mIxS_e, ↓mTab_e, ↓mDGet_e, ↓mDIn_e, ↓mDGet2_e, ↓mNil_e, ↓mCons_e, ↓mLst_e, ↓mTup_e, ↓mDNew_e, ↓mCatL_e, ↓mRepL_e, ↓mNoPart_e, ↓mPart_e, ↓mSlL_e, ↓mSlS_e, ↓mSlT_e, ↓mCatT_e, ↓mCB_e, ↓mLen_e, ↓mLenS_e, ↓mLenD_e, ↓mInt_e, ↓mBool_e, ↓mStrI_e, ↓mMM_e, ↓mMM3_e, ↓mI1_e, ↓mSum_e, ↓mMax_e, ↓mMin_e, ↓mAll_e, ↓mAnyB_e, ↓mListOf_e, ↓mTupOf_e, ↓mSorted_e, ↓mIsi_e, ↓mNeg_e, ↓mTest_e, ↓mAndT_e, ↓mOrT_e, ↓mNotT_e, ↓mYes_e, ↓mAndV_e, ↓mOrV_e, ↓mNotV_e, ↓mIfE_e, ↓mChain_e, ↓mTru_e, ↓mCall_e, ↓mGN_e, ↓mGNil_e, ↓mGCons_e, ↓mGT_e, ↓mItL_e, ↓mItT_e, ↓mRng1_e, ↓mRng2_e, ↓mItS_e, ↓mEnum_e, ↓mZip_e, ↓mLc_e, ↓mDc_e, ↓mNext_e, ↓mBrk_e, ↓mCnt_e, ↓mSeq_e, ↓mCut_e, ↓mIf_e, ↓mAsg_e, ↓mAsgF_e, ↓mAug_e, ↓mDrop_e, ↓mRet_e, ↓mRetO_e, ↓mApp_e, ↓mPop_e, ↓mPopD_e, ↓mPopAt_e, ↓mSetL_e, ↓mDPut_e, ↓mRev_e, ↓mExt_e, ↓mFrz_e, ↓mFor_e, ↓mWhile_e, ↓mFmt_e, ↓mFmtR_e, ↓mJoin_e, ↓mRaise_e, ↓mRaise0_e, frzE, mJs, itemsD, keyD, isTy, tyD, truD, Dat.flat, wipeE, List.set_cons_zero, List.set_cons_succ, List.getElem?_cons_zero, List.getElem?_cons_succ, Bool.not_true, Bool.not_false, if_true, if_false, ite_true, ite_false, Bool.false_eq_true, true_and, and_true, reduceIte, decide_eq_true_eq, decide_eq_false_iff_not, Bool.not_eq_true', Bool.or_eq_true, Bool.and_eq_true, intsD_len, intsD_cons, intsD_app, exists_eq_left', exists_eq_left, Option.some.injEq, List.all_cons, List.all_nil, List.any_cons, List.any_nil, Nat.zero_le, Int.toNat_natCast, rngD_len, if_max, if_min, Int.zero_add, ↓at_ints_e, ↓at_map_e, getI_nat, getI_0, getI_1, getI_2, getI_3, getI_4, getI_5, getI_6, getI_7, String.reduceBEq, atI_m1, atI_0, atI_1, atI_2, atI_3, atI_4, atI_5, atI_6, atI_7, atI_8, atI_9, eqF_int, eqF_str, Bool.or_false, Bool.or_eq_false_iff, Nat.reduceLeDiff, CMul, CPow, Int.reduceLT, Int.reduceLE, Int.reduceAdd, Int.reduceSub, Int.reduceMul, Int.reduceNeg, Int.reducePow, Int.reduceToNat, Int.reduceEq, Nat.reduceMul, Nat.reducePow, Nat.reduceLT, Nat.reduceEqDiff, or_true, true_or, ge_iff_le, gt_iff_lt, cdiv_of, natAbs_10, natAbs_2, List.getD_cons_zero, List.getD_cons_succ, putS, len_map, cutG_ints, cutG_map, atI_natL, ↓ps_law_parts, ↓ps_law_is_integer, ↓ps_law_cell_e, DrawD, isIntsD, isIntsD_e, pairD_e]
    refine ⟨hl, .inr ⟨filF w (fun p => decide (p.1 ≤ t)) (fun p => .int p.2), filF_step rfl ?_, ?_⟩⟩
    · intro p hp Py N h1 h2
      ((first | unfold FStep | unfold CStep | unfold DStep | unfold WStep | unfold Aft); simp only [startE, List.map_cons, List.map_nil, List.length_cons, List.length_nil, Nat.zero_add, Nat.reduceAdd, Nat.reduceSub, List.replicate_succ, List.replicate_zero, List.cons_append, List.nil_append, ↓mVar_e, ↓mAny_e, ↓mC_e, ↓mFlat_e, ↓mOp_e, ↓mII_e, ↓mIB_e, ↓mIIC_e, ↓mCatS_e, ↓mRepS_e, ↓mEq_e, ↓mNe_e, ↓mIsN_e, ↓mIn_e, ↓mInS_e, ↓mEqD_e, ↓mNeD_e, ↓mIxL_e, ↓mIxT_e, ↓mIxS_e, ↓mTab_e, ↓mDGet_e, ↓mDIn_e, ↓mDGet2_e, ↓mNil_e, ↓mCons_e, ↓mLst_e, ↓mTup_e, ↓mDNew_e, ↓mCatL_e, ↓mRepL_e, ↓mNoPart_e, ↓mPart_e, ↓mSlL_e, ↓mSlS_e, ↓mSlT_e, ↓mCatT_e, ↓mCB_e, ↓mLen_e, ↓mLenS_e, ↓mLenD_e, ↓mInt_e, ↓mBool_e, ↓mStrI_e, ↓mMM_e, ↓mMM3_e, ↓mI1_e, ↓mSum_e, ↓mMax_e, ↓mMin_e, ↓mAll_e, ↓mAnyB_e, ↓mListOf_e, ↓mTupOf_e, ↓mSorted_e, ↓mIsi_e, ↓mNeg_e, ↓mTest_e, ↓mAndT_e, ↓mOrT_e, ↓mNotT_e, ↓mYes_e, ↓mAndV_e, ↓mOrV_e, ↓mNotV_e, ↓mIfE_e, ↓mChain_e, ↓mTru_e, ↓mCall_e, ↓mGN_e, ↓mGNil_e, ↓mGCons_e, ↓mGT_e, ↓mItL_e, ↓mItT_e, ↓mRng1_e, ↓mRng2_e, ↓mItS_e, ↓mEnum_e, ↓mZip_e, ↓mLc_e, ↓mDc_e, ↓mNext_e, ↓mBrk_e, ↓mCnt_e, ↓mSeq_e, ↓mCut_e, ↓mIf_e, ↓mAsg_e, ↓mAsgF_e, ↓mAug_e, ↓mDrop_e, ↓mRet_e, ↓mRetO_e, ↓mApp_e, ↓mPop_e, ↓mPopD_e, ↓mPopAt_e, ↓mSetL_e, ↓mDPut_e, ↓mRev_e, ↓mExt_e, ↓mFrz_e, ↓mFor_e, ↓mWhile_e, ↓mFmt_e, ↓mFmtR_e, ↓mJoin_e, ↓mRaise_e, ↓mRaise0_e, frzE, mJs, itemsD, keyD, isTy, tyD, truD, Dat.flat, wipeE, List.set_cons_zero, List.set_cons_succ, List.getElem?_cons_zero, List.getElem?_cons_succ, Bool.not_true, Bool.not_false, if_true, if_false, ite_true, ite_false, Bool.false_eq_true, true_and, and_true, reduceIte, decide_eq_true_eq, decide_eq_false_iff_not, Bool.not_eq_true', Bool.or_eq_true, Bool.and_eq_true, intsD_len, intsD_cons, intsD_app, exists_eq_left', exists_eq_left, Option.some.injEq, List.all_cons, List.all_nil, List.any_cons, List.any_nil, Nat.zero_le, Int.toNat_natCast, rngD_len, if_max, if_min, Int.zero_add, ↓at_ints_e, ↓at_map_e, getI_nat, getI_0, getI_1, getI_2, getI_3, getI_4, getI_5, getI_6, getI_7, String.reduceBEq, atI_m1, atI_0, atI_1, atI_2, atI_3, atI_4, atI_5, atI_6, atI_7, atI_8, atI_9, eqF_int, eqF_str, Bool.or_false, Bool.or_eq_false_iff, Nat.reduceLeDiff, CMul, CPow, Int.reduceLT, Int.reduceLE, Int.reduceAdd, Int.reduceSub, Int.reduceMul, Int.reduceNeg, Int.reducePow, Int.reduceToNat, Int.reduceEq, Nat.reduceMul, Nat.reducePow, Nat.reduceLT, Nat.reduceEqDiff, or_true, true_or, ge_iff_le, gt_iff_lt, cdiv_of, natAbs_10, natAbs_2, List.getD_cons_zero, List.getD_cons_succ, putS, len_map, cutG_ints, cutG_map, atI_natL, ↓ps_law_parts, ↓ps_law_is_integer, ↓ps_law_cell_e, DrawD, isIntsD, isIntsD_e, pairD_e])
      split
      · exact h1 (decide_eq_true (by assumption))
      · exact h2 (decide_eq_false (by assumption))
    · rw [filF_eq]
      unfold atW at hv
      rw [List.getLast?_map] at hv ⊢
      cases e : (w.filter fun p => decide (p.1 ≤ t)).getLast? with
      | none => rw [e] at hv; cases hv
      | some p => rw [e] at hv; cases hv; exact ⟨_, rfl, q⟩
  · rintro ds P X ⟨w, t, v, rfl, _⟩
    rfl
/-- times grow -/
structure WaveOk (w : List (Int × Int)) : Prop where
  ne : w ≠ []
  up : w.Pairwise fun p r => p.1 < r.1
theorem atW_at {u v : List (Int × Int)} {p : Int × Int} {t : Int} (h1 : p.1 ≤ t) (h2 : ∀ r ∈ v, t < r.1) : atW (u ++ p :: v) t = some p.2 := by
  unfold atW
  rw [List.filter_append, List.filter_cons, if_pos (by simpa using h1), (List.filter_eq_nil_iff.mpr (fun r hr => by have := h2 r hr; simp; omega) : v.filter (fun p => decide (p.1 ≤ t)) = []), List.map_append, List.map_cons, List.map_nil]
  exact List.getLast?_concat
theorem wave_snoc {w : List (Int × Int)} {p r : Int × Int} (h : WaveOk w) (hl : w.getLast? = some p) (hp : p.1 < r.1) : WaveOk (w ++ [r]) := by
  refine ⟨by simp, List.pairwise_append.mpr ⟨h.up, List.pairwise_singleton _ _, fun a ha b hb => ?_⟩⟩
  have hb : b = r := List.mem_singleton.mp hb
  subst hb
  obtain ⟨u, rfl⟩ := List.getLast?_eq_some_iff.mp hl
  rcases List.mem_append.mp ha with ha | ha
  · have := (List.pairwise_append.mp h.up).2.2 a ha p (by simp)
    omega
  · rw [List.mem_singleton.mp ha]
    exact hp
/-- the value between two times of the wave -/
theorem wave_at {w : List (Int × Int)} (h : WaveOk w) {k : Nat} {p : Int × Int} {t : Int} (hk : w[k]? = some p) (h1 : p.1 ≤ t) (h2 : ∀ r, w[k + 1]? = some r → t < r.1) : atW w t = some p.2 := by
  have e := split_at hk
  rw [e]
  refine atW_at h1 fun r hr => ?_
  have hu := h.up
  rw [e] at hu
  cases hd : w.drop (k + 1) with
  | nil => rw [hd] at hr; cases hr
  | cons x l =>
    have hx : w[k + 1]? = some x := by
      have : (w.drop (k + 1))[0]? = some x := by rw [hd]; rfl
      rwa [List.getElem?_drop] at this
    have ht := h2 x hx
    rw [hd] at hr hu
    rcases List.mem_cons.mp hr with rfl | hr
    · exact ht
    · have := (List.pairwise_cons.mp (List.pairwise_cons.mp (List.pairwise_append.mp hu).2.1).2).1 r hr
      omega
theorem up_lt {w : List (Int × Int)} (h : WaveOk w) {k : Nat} {p r : Int × Int} (h1 : w[k]? = some p) (h2 : w[k + 1]? = some r) : p.1 < r.1 := by
  obtain ⟨a, rfl⟩ := List.getElem?_eq_some_iff.mp h1
  obtain ⟨b, rfl⟩ := List.getElem?_eq_some_iff.mp h2
  exact List.pairwise_iff_getElem.mp h.up k (k + 1) a b (by omega)
theorem ok_law (T : Top K mg w a) : FnOk P w K mg base CX0 2 a.f_law a.d_law ["script"] (spLaw K) := by
  refine T.F_law.ok sc_law (fun vs H Q E h => spLaw_len h) (fun cdv A outer s H vs Q E hr h => ?_)
  refine ⟨_, (pss_cons (ps_set (i := 1) sc_law.nd rfl (Or.inl rfl) (pe_call (ok_law_parts T) (hr.mono (by decide)) (by rfl) T.g_law_parts T.F_law_parts.kp T.b_law_parts .nil pass0 (pa_cons (pe_call (ok_law_cell T) (hr.mono (by decide)) (by rfl) T.g_law_cell T.F_law_cell.kp T.b_law_cell .nil pass0 (pa_cons (pv 0) (pa_cons (pe_op op_fdivW (pe_callB call_len_seq (by rfl) T.z_len (by decide +kernel) (pa_cons (pv 0) pa_nil)) pe_int) pa_nil))) (pa_cons (pe_lst (pa_cons pe_int (pa_cons (pe_op op_pow pe_int pe_int) pa_nil))) pa_nil))))
      (pss_cons (ps_set (i := 2) sc_law.nd rfl (Or.inl rfl) (pe_lst (pa_cons (pe_tup (pa_cons pe_int (pa_cons (pe_ix ix_list (pv 1) pe_int (fun _ _ => rfl)) pa_nil))) pa_nil)))
      (pss_cons (ps_for PassesOwn.never rfl (pi_list (pe_slice sl_list (pv 0) po_none (po_some pe_int))) (pg_name (i := 3) sc_law.nd rfl (Or.inl rfl))
      (pss_cons (ps_set (i := 4) sc_law.nd rfl (Or.inl rfl) (pe_call (ok_law_parts T) (hr.mono (by decide)) (by rfl) T.g_law_parts T.F_law_parts.kp T.b_law_parts .nil pass0 (pa_cons (pv 3) (pa_cons (pe_lst (pa_cons pe_int (pa_cons pe_int pa_nil))) pa_nil))))
      (pss_cons (ps_set (i := 5) sc_law.nd rfl (Or.inl rfl) (pe_op op_add pe_int (pe_ix ix_list (pv 4) pe_int (fun _ _ => rfl))))
      (Evl.pss_cut (ps_if (pt_cmpR op_eq (pe_ix ix_list (pv 4) pe_int (fun _ _ => rfl)) pe_int (nomark _))
      (pss_one (ps_set (i := 5) sc_law.nd rfl (Or.inl rfl) (pe_op op_pow pe_int pe_int)))
      pss_nil)
      (pss_one (ps_expr (pe_bm PySem.F.plainAttrs_list PySem.F.slot_list_append PySem.F.type_list_append mt_append (pv 2) (pa_cons (pe_tup (pa_cons (pe_op op_add (pe_ix ix_tup (pe_ix ix_list (pv 2) (pe_un un_neg pe_int) (fun _ _ => rfl)) pe_int (fun _ _ => rfl)) (pv 5)) (pa_cons (pe_op op_sub pe_int (pe_ix ix_tup (pe_ix ix_list (pv 2) (pe_un un_neg pe_int) (fun _ _ => rfl)) pe_int (fun _ _ => rfl))) pa_nil))) pa_nil))))))))
      (pss_cons (ps_set (i := 6) sc_law.nd rfl (Or.inl rfl) (pe_callTy call_list_of (by rfl) T.z_list (by decide +kernel) (pa_cons (pv 2) pa_nil)))
      (pss_cons (ps_for PassesOwn.never rfl (pi_range1 rfl T.z_range (pa_cons (pe_callB call_len_seq (by rfl) T.z_len (by decide +kernel) (pa_cons (pv 2) pa_nil)) pa_nil)) (pg_name (i := 7) sc_law.nd rfl (Or.inl rfl))
      (pss_cons (ps_set (i := 8) sc_law.nd rfl (Or.inl rfl) (pe_lst (pa_cons (pe_ix ix_tup (pe_ix ix_list (pv 2) (pv 7) (fun _ _ => rfl)) pe_int (fun _ _ => rfl)) (pa_cons (pe_op op_add (pe_ix ix_tup (pe_ix ix_list (pv 2) (pv 7) (fun _ _ => rfl)) pe_int (fun _ _ => rfl)) pe_int) pa_nil))))
      (pss_cons (ps_set (i := 9) sc_law.nd rfl (Or.inl rfl) (pe_lst (pa_cons (pe_ix ix_tup (pe_ix ix_list (pv 2) (pv 7) (fun _ _ => rfl)) pe_int (fun _ _ => rfl)) (pa_cons (pe_ix ix_tup (pe_ix ix_list (pv 2) (pv 7) (fun _ _ => rfl)) pe_int (fun _ _ => rfl)) pa_nil))))
      (Evl.pss_cut (ps_if (pt_cmpR op_gt (pv 7) pe_int (nomark _))
      (pss_cons (ps_expr (pe_bm PySem.F.plainAttrs_list PySem.F.slot_list_append PySem.F.type_list_append mt_append (pv 8) (pa_cons (pe_op op_sub (pe_ix ix_tup (pe_ix ix_list (pv 2) (pv 7) (fun _ _ => rfl)) pe_int (fun _ _ => rfl)) pe_int) pa_nil)))
      (pss_one (ps_expr (pe_bm PySem.F.plainAttrs_list PySem.F.slot_list_append PySem.F.type_list_append mt_append (pv 9) (pa_cons (pe_ix ix_tup (pe_ix ix_list (pv 2) (pe_op op_sub (pv 7) pe_int) (fun _ _ => rfl)) pe_int (fun _ _ => rfl)) pa_nil)))))
      pss_nil)
      (Evl.pss_cut (ps_if (PW.pt (pw_and (pt_cmpR op_lt (pe_op op_add (pv 7) pe_int) (pe_callB call_len_seq (by rfl) T.z_len (by decide +kernel) (pa_cons (pv 2) pa_nil)) (nomark _)) (pw_and1 (pt_cmpR op_eq (pe_ix ix_tup (pe_ix ix_list (pv 2) (pe_op op_add (pv 7) pe_int) (fun _ _ => rfl)) pe_int (fun _ _ => rfl)) (pe_op op_add (pe_ix ix_tup (pe_ix ix_list (pv 2) (pv 7) (fun _ _ => rfl)) pe_int (fun _ _ => rfl)) pe_int) (nomark _)))))
      (pss_one (ps_asg (pe_ix ix_tup (pe_ix ix_list (pv 2) (pe_op op_add (pv 7) pe_int) (fun _ _ => rfl)) pe_int (fun _ _ => rfl)) (pg_sub (pv 9) pe_int set_list)))
      pss_nil)
      (pss_one (ps_for PassesOwn.never rfl (pi_range1 rfl T.z_range (pa_cons (pe_callB call_len_seq (by rfl) T.z_len (by decide +kernel) (pa_cons (pv 8) pa_nil)) pa_nil)) (pg_name (i := 10) sc_law.nd rfl (Or.inl rfl))
      (pss_cons (ps_set (i := 11) sc_law.nd rfl (Or.inl rfl) (pe_call (ok_value_at T) (hr.mono (by decide)) (by rfl) T.g_value_at T.F_value_at.kp T.b_value_at .nil pass0 (pa_cons (pv 6) (pa_cons (pe_ix ix_list (pv 8) (pv 10) (fun _ _ => rfl)) pa_nil))))
      (pss_one (ps_if (PW.pt (pw_or (pt_not (pt_val (pe_call (ok_law_is_integer T) (hr.mono (by decide)) (by rfl) T.g_law_is_integer T.F_law_is_integer.kp T.b_law_is_integer .nil pass0 (pa_cons (pv 11) pa_nil)))) (pw_or1 (pt_cmpR op_ne (pv 11) (pe_ix ix_list (pv 9) (pv 10) (fun _ _ => rfl)) (nomark _)))))
      (pss_one (ps_ret pe_bl))
      pss_nil))))))))))
      (pss_cons (ps_set (i := 11) sc_law.nd rfl (Or.inl rfl) (pe_call (ok_value_at T) (hr.mono (by decide)) (by rfl) T.g_value_at T.F_value_at.kp T.b_value_at .nil pass0 (pa_cons (pv 6) (pa_cons (pe_op op_add (pe_ix ix_tup (pe_ix ix_list (pv 2) (pe_un un_neg pe_int) (fun _ _ => rfl)) pe_int (fun _ _ => rfl)) (pe_ix ix_list (pv 1) pe_int (fun _ _ => rfl))) pa_nil))))
      (pss_one (ps_ret (pe_and (pe_call (ok_law_is_integer T) (hr.mono (by decide)) (by rfl) T.g_law_is_integer T.F_law_is_integer.kp T.b_law_is_integer .nil pass0 (pa_cons (pv 11) pa_nil)) (pe_and (pe_cmpR op_eq (pv 11) (pe_ix ix_tup (pe_ix ix_list (pv 2) (pe_un un_neg pe_int) (fun _ _ => rfl)) pe_int (fun _ _ => rfl)) (nomark _)) (pe_one (pe_cmpR (op_eqD (hu64 hr)) (pv 6) (pv 2) (nomark _))))))))))))), ?_⟩
  refine run_D (fun S0 X hX => (ss_seq (ss_asg (sm_new (sf_call (X := fun _ => False) (fun _ _ h _ => h.elim) (sa_cons (sm_call (X := fun _ => False) (fun _ _ h _ => h.elim) (sa_cons (sm_var (i := 0)) (sa_cons (sm_op sr_iic (sm_cb sb_len (sa_cons (sm_var (i := 0)) sa_nil)) sm_int) sa_nil))) (sa_cons (sm_new (sf_lst (sa_cons sm_int (sa_cons (sm_op sr_iic sm_int sm_int) sa_nil)))) sa_nil)))) (sg_name (i := 1)))
      (ss_seq (ss_asgF (i := 2) (sf_lst (sa_cons (sm_tup (sa_cons sm_int (sa_cons (sm_ixL (sm_var (i := 1)) sm_int) sa_nil))) sa_nil)))
      (ss_seq (ss_for (si_listS (sm_new (sf_slL (sm_var (i := 0)) so_none (so_some sm_int)))) (sg_name (i := 3))
      (ss_seq (ss_asg (sm_new (sf_call (X := fun _ => False) (fun _ _ h _ => h.elim) (sa_cons (sm_var (i := 3)) (sa_cons (sm_new (sf_lst (sa_cons sm_int (sa_cons sm_int sa_nil)))) sa_nil)))) (sg_name (i := 4)))
      (ss_seq (ss_asg (sm_op sr_ii sm_int (sm_ixL (sm_var (i := 4)) sm_int)) (sg_name (i := 5)))
      (ss_cut (ss_if (st_test (sm_op sr_eq (sm_ixL (sm_var (i := 4)) sm_int) sm_int))
      (ss_asg (sm_op sr_iic sm_int sm_int) (sg_name (i := 5)))
      ss_next)
      (ss_app (i := 2) (sm_tup (sa_cons (sm_op sr_ii (sm_ixT (sm_ixL (sm_anyC (i := 2)) (sm_neg sm_int)) sm_int) (sm_var (i := 5))) (sa_cons (sm_op sr_ii sm_int (sm_ixT (sm_ixL (sm_anyC (i := 2)) (sm_neg sm_int)) sm_int)) sa_nil))))))))
      (ss_seq (ss_asg (sm_new (sf_listOf (sm_anyC (i := 2)))) (sg_name (i := 6)))
      (ss_seq (ss_for (si_rng1 (sa_cons (sm_cb sb_len (sa_cons (sm_anyW (i := 2)) sa_nil)) sa_nil)) (sg_name (i := 7))
      (ss_seq (ss_asgF (i := 8) (sf_lst (sa_cons (sm_ixT (sm_ixL (sm_anyC (i := 2)) (sm_var (i := 7))) sm_int) (sa_cons (sm_op sr_ii (sm_ixT (sm_ixL (sm_anyC (i := 2)) (sm_var (i := 7))) sm_int) sm_int) sa_nil))))
      (ss_seq (ss_asgF (i := 9) (sf_lst (sa_cons (sm_ixT (sm_ixL (sm_anyC (i := 2)) (sm_var (i := 7))) sm_int) (sa_cons (sm_ixT (sm_ixL (sm_anyC (i := 2)) (sm_var (i := 7))) sm_int) sa_nil))))
      (ss_cut (ss_if (st_test (sm_op sr_ib (sm_var (i := 7)) sm_int))
      (ss_seq (ss_app (i := 8) (sm_op sr_ii (sm_ixT (sm_ixL (sm_anyC (i := 2)) (sm_var (i := 7))) sm_int) sm_int))
      (ss_app (i := 9) (sm_ixT (sm_ixL (sm_anyC (i := 2)) (sm_op sr_ii (sm_var (i := 7)) sm_int)) sm_int)))
      ss_next)
      (ss_cut (ss_if (st_and (st_test (sm_op sr_ib (sm_op sr_ii (sm_var (i := 7)) sm_int) (sm_cb sb_len (sa_cons (sm_anyW (i := 2)) sa_nil)))) (st_test (sm_op sr_eq (sm_ixT (sm_ixL (sm_anyC (i := 2)) (sm_op sr_ii (sm_var (i := 7)) sm_int)) sm_int) (sm_op sr_ii (sm_ixT (sm_ixL (sm_anyC (i := 2)) (sm_var (i := 7))) sm_int) sm_int))))
      (ss_setL (i := 9) (sm_ixT (sm_ixL (sm_anyC (i := 2)) (sm_op sr_ii (sm_var (i := 7)) sm_int)) sm_int) sm_int)
      ss_next)
      (ss_for (si_rng1 (sa_cons (sm_cb sb_len (sa_cons (sm_anyW (i := 8)) sa_nil)) sa_nil)) (sg_name (i := 10))
      (ss_seq (ss_asg (sm_call (X := fun _ => False) (fun _ _ h _ => h.elim) (sa_cons (sm_var (i := 6)) (sa_cons (sm_ixL (sm_anyC (i := 8)) (sm_var (i := 10))) sa_nil))) (sg_name (i := 11)))
      (ss_if (st_or (st_not (st_B (sm_call (X := fun _ => False) (fun _ _ h _ => h.elim) (sa_cons (sm_var (i := 11)) sa_nil)))) (st_test (sm_op sr_ne (sm_var (i := 11)) (sm_ixL (sm_anyC (i := 9)) (sm_var (i := 10))))))
      (ss_ret sm_bl)
      ss_next))))))))
      (ss_seq (ss_asg (sm_call (X := fun _ => False) (fun _ _ h _ => h.elim) (sa_cons (sm_var (i := 6)) (sa_cons (sm_op sr_ii (sm_ixT (sm_ixL (sm_anyC (i := 2)) (sm_neg sm_int)) sm_int) (sm_ixL (sm_var (i := 1)) sm_int)) sa_nil))) (sg_name (i := 11)))
      (ss_ret (sm_andV (sm_call (X := fun _ => False) (fun _ _ h _ => h.elim) (sa_cons (sm_var (i := 11)) sa_nil)) (sm_andV (sm_op sr_eq (sm_var (i := 11)) (sm_ixT (sm_ixL (sm_anyC (i := 2)) (sm_neg sm_int)) sm_int)) (sm_op sr_eqD (sm_var (i := 6)) (sm_anyW (i := 2))))))))))))) (spLaw_D h) ?_
  rintro ds P X ⟨ns, rfl, hl, q⟩
  simp only [startE, List.map_cons, List.map_nil, List.length_cons, List.length_nil, Nat.zero_add, Nat.reduceAdd, Nat.reduceSub, List.replicate_succ, List.replicate_zero, List.cons_append, List.nil_append, ↓mVar_e, ↓mAny_e, ↓mC_e, ↓mFlat_e, ↓mOp_e, ↓mII_e, ↓mIB_e, ↓mIIC_e, ↓mCatS_e, ↓mRepS_e, ↓mEq_e, ↓mNe_e, ↓mIsN_e, ↓mIn_e, ↓mInS_e, ↓mEqD_e, ↓mNeD_e, ↓mIxL_e, ↓mIxT_e, ↓mIxS_e, ↓mTab_e, ↓mDGet_e, ↓mDIn_e, ↓mDGet2_e, ↓mNil_e, ↓mCons_e, ↓mLst_e, ↓mTup_e, ↓mDNew_e, ↓mCatL_e, ↓mRepL_e, ↓mNoPart_e, ↓mPart_e, ↓mSlL_e, ↓mSlS_e, ↓mSlT_e, ↓mCatT_e, ↓mCB_e, ↓mLen_e, ↓mLenS_e, ↓mLenD_e, ↓mInt_e, ↓mBool_e, ↓mStrI_e, ↓mMM_e, ↓mMM3_e, ↓mI1_e, ↓mSum_e, ↓mMax_e, ↓mMin_e, ↓mAll_e, ↓mAnyB_e, ↓mListOf_e, ↓mTupOf_e, ↓mSorted_e, ↓mIsi_e, ↓mNeg_e, ↓mTest_e, ↓mAndT_e, ↓mOrT_e, ↓mNotT_e, ↓mYes_e, ↓mAndV_e, ↓mOrV_e, ↓mNotV_e, ↓mIfE_e, ↓mChain_e, ↓mTru_e, ↓mCall_e, ↓mGN_e, ↓mGNil_e, ↓mGCons_e, ↓mGT_e, ↓mItL_e, ↓mItT_e, ↓mRng1_e, ↓mRng2_e, ↓mItS_e, ↓mEnum_e, ↓mZip_e, ↓mLc_e, ↓mDc_e, ↓mNext_e, ↓mBrk_e, ↓mCnt_e, ↓mSeq_e, ↓mCut_e, ↓mIf_e, ↓mAsg_e, ↓mAsgF_e, ↓mAug_e, ↓mDrop_e, ↓mRet_e, ↓mRetO_e, ↓mApp_e, ↓mPop_e, ↓mPopD_e, ↓mPopAt_e, ↓mSetL_e, ↓mDPut_e, ↓mRev_e, ↓mExt_e, ↓mFrz_e, ↓mFor_e, ↓mWhile_e, ↓mFmt_e, ↓mFmtR_e, ↓mJoin_e, ↓mRaise_e, ↓mRaise0_e, frzE, mJs, itemsD, keyD, isTy, tyD, truD, Dat.flat, wipeE, List.set_cons_zero, List.set_cons_succ, List.getElem?_cons_zero, List.getElem?_cons_succ, Bool.not_true, Bool.not_false, if_true, if_false, ite_true, ite_false, Bool.false_eq_true, true_and, and_true, reduceIte, decide_eq_true_eq, decide_eq_false_iff_not, Bool.not_eq_true', Bool.or_eq_true, Bool.and_eq_true, intsD_len, intsD_cons, intsD_app, exists_eq_left', exists_eq_left, Option.some.injEq, List.all_cons, List.all_nil, List.any_cons, List.any_nil, Nat.zero_le, Int.toNat_natCast, rngD_len, if_max, if_min, Int.zero_add, ↓at_ints_e, ↓at_map_e, getI_nat, getI_0, getI_1, getI_2, getI_3, getI_4, getI_5, getI_6, getI_7, String.reduceBEq, atI_m1, atI_0, atI_1, atI_2, atI_3, atI_4, atI_5, atI_6, atI_7, atI_8, atI_9, eqF_int, eqF_str, Bool.or_false, Bool.or_eq_false_iff, Nat.reduceLeDiff, CMul, CPow, Int.reduceLT, Int.reduceLE, Int.reduceAdd, Int.reduceSub, Int.reduceMul, Int.reduceNeg, Int.reducePow, Int.reduceToNat, Int.reduceEq, Nat.reduceMul, Nat.reducePow, Nat.reduceLT, Nat.reduceEqDiff, or_true, true_or, ge_iff_le, gt_iff_lt, cdiv_of, natAbs_10, natAbs_2, List.getD_cons_zero, List.getD_cons_succ, putS, len_map, cutG_ints, cutG_map, atI_natL, ↓ps_law_parts, ↓ps_law_is_integer, ↓ps_law_cell_e, DrawD, isIntsD, isIntsD_e, pairD_e]
  refine ⟨by omega, fun h0 h00 h01 h1 h10 h11 => ?_⟩
  refine for_st (g := Dat.int) [2, 3, 4, 5] (cutG ns none (some 30)) (fun pre vs => ∃ (w : List (Int × Int)) (x y z : Option Cel), vs = [some (.own (.list (w.map pairD))), x, y, z] ∧ WaveOk w ∧ w.length = pre.length + 1) rfl rfl [some (.own (.list ([(0, h0)].map pairD))), none, none, none] ⟨_, _, _, _, rfl, ⟨by simp, List.pairwise_singleton _ _⟩, rfl⟩ rfl ?_ ?_
  · rintro pre c post vs hL ⟨w, x, y, z, rfl, hw, hlen⟩
    have hpl : pre.length ≤ 63 := by
      have := cutG_len (L := ns) (a := none) (b := some 30)
      rw [hL, List.length_append] at this
      omega
    ((first | unfold FStep | unfold CStep | unfold DStep | unfold WStep | unfold Aft); simp only [startE, List.map_cons, List.map_nil, List.length_cons, List.length_nil, Nat.zero_add, Nat.reduceAdd, Nat.reduceSub, List.replicate_succ, List.replicate_zero, List.cons_append, List.nil_append, ↓mVar_e, ↓mAny_e, ↓mC_e, ↓mFlat_e, ↓mOp_e, ↓mII_e, ↓mIB_e, ↓mIIC_e, ↓mCatS_e, ↓mRepS_e, ↓mEq_e, ↓mNe_e, ↓mIsN_e, ↓mIn_e, ↓mInS_e, ↓mEqD_e, ↓mNeD_e, ↓mIxL_e, ↓mIxT_e, ↓mIxS_e, ↓mTab_e, ↓mDGet_e, ↓mDIn_e, ↓mDGet2_e, ↓mNil_e, ↓mCons_e, ↓mLst_e, ↓mTup_e, ↓mDNew_e, ↓mCatL_e, ↓mRepL_e, ↓mNoPart_e, ↓mPart_e, ↓mSlL_e, ↓mSlS_e, ↓mSlT_e, ↓mCatT_e, ↓mCB_e, ↓mLen_e, ↓mLenS_e, ↓mLenD_e, ↓mInt_e, ↓mBool_e, ↓mStrI_e, ↓mMM_e, ↓mMM3_e, ↓mI1_e, ↓mSum_e, ↓mMax_e, ↓mMin_e, ↓mAll_e, ↓mAnyB_e, ↓mListOf_e, ↓mTupOf_e, ↓mSorted_e, ↓mIsi_e, ↓mNeg_e, ↓mTest_e, ↓mAndT_e, ↓mOrT_e, ↓mNotT_e, ↓mYes_e, ↓mAndV_e, ↓mOrV_e, ↓mNotV_e, ↓mIfE_e, ↓mChain_e, ↓mTru_e, ↓mCall_e, ↓mGN_e, ↓mGNil_e, ↓mGCons_e, ↓mGT_e, ↓mItL_e, ↓mItT_e, ↓mRng1_e, ↓mRng2_e, ↓mItS_e, ↓mEnum_e, ↓mZip_e, ↓mLc_e, ↓mDc_e, ↓mNext_e, ↓mBrk_e, ↓mCnt_e, ↓mSeq_e, ↓mCut_e, ↓mIf_e, ↓mAsg_e, ↓mAsgF_e, ↓mAug_e, ↓mDrop_e, ↓mRet_e, ↓mRetO_e, ↓mApp_e, ↓mPop_e, ↓mPopD_e, ↓mPopAt_e, ↓mSetL_e, ↓mDPut_e, ↓mRev_e, ↓mExt_e, ↓mFrz_e, ↓mFor_e, ↓mWhile_e, ↓mFmt_e, ↓mFmtR_e, ↓mJoin_e, ↓mRaise_e, ↓mRaise0_e, frzE, mJs, itemsD, keyD, isTy, tyD, truD, Dat.flat, wipeE, List.set_cons_zero, List.set_cons_succ, List.getElem?_cons_zero, List.getElem?_cons_succ, Bool.not_true, Bool.not_false, if_true, if_false, ite_true, ite_false, Bool.false_eq_true, true_and, and_true, reduceIte, decide_eq_true_eq, decide_eq_false_iff_not, Bool.not_eq_true', Bool.or_eq_true, Bool.and_eq_true, intsD_len, intsD_cons, intsD_app, exists_eq_left', exists_eq_left, Option.some.injEq, List.all_cons, List.all_nil, List.any_cons, List.any_nil, Nat.zero_le, Int.toNat_natCast, rngD_len, if_max, if_min, Int.zero_add, ↓at_ints_e, ↓at_map_e, getI_nat, getI_0, getI_1, getI_2, getI_3, getI_4, getI_5, getI_6, getI_7, String.reduceBEq, atI_m1, atI_0, atI_1, atI_2, atI_3, atI_4, atI_5, atI_6, atI_7, atI_8, atI_9, eqF_int, eqF_str, Bool.or_false, Bool.or_eq_false_iff, Nat.reduceLeDiff, CMul, CPow, Int.reduceLT, Int.reduceLE, Int.reduceAdd, Int.reduceSub, Int.reduceMul, Int.reduceNeg, Int.reducePow, Int.reduceToNat, Int.reduceEq, Nat.reduceMul, Nat.reducePow, Nat.reduceLT, Nat.reduceEqDiff, or_true, true_or, ge_iff_le, gt_iff_lt, cdiv_of, natAbs_10, natAbs_2, List.getD_cons_zero, List.getD_cons_succ, putS, len_map, cutG_ints, cutG_map, atI_natL, ↓ps_law_parts, ↓ps_law_is_integer, ↓ps_law_cell_e, DrawD, isIntsD, isIntsD_e, pairD_e])
    intro p0 p00 p01 p1 p10 p11
    refine cut_st [5] (fun vs => ∃ l : Int, vs = [some (.dat (.int l))] ∧ 1 ≤ l) ?_ ?_
    · split
      · exact ⟨_, ⟨_, rfl, by decide⟩, rfl⟩
      · exact ⟨[_], ⟨_, rfl, by omega⟩, rfl⟩
    · rintro vs ⟨l, rfl, hl1⟩
      ((first | unfold FStep | unfold CStep | unfold DStep | unfold WStep | unfold Aft); simp only [startE, List.map_cons, List.map_nil, List.length_cons, List.length_nil, Nat.zero_add, Nat.reduceAdd, Nat.reduceSub, List.replicate_succ, List.replicate_zero, List.cons_append, List.nil_append, ↓mVar_e, ↓mAny_e, ↓mC_e, ↓mFlat_e, ↓mOp_e, ↓mII_e, ↓mIB_e, ↓mIIC_e, ↓mCatS_e, ↓mRepS_e, ↓mEq_e, ↓mNe_e, ↓mIsN_e, ↓mIn_e, ↓mInS_e, ↓mEqD_e, ↓mNeD_e, ↓mIxL_e, ↓mIxT_e, ↓mIxS_e, ↓mTab_e, ↓mDGet_e, ↓mDIn_e, ↓mDGet2_e, ↓mNil_e, ↓mCons_e, ↓mLst_e, ↓mTup_e, ↓mDNew_e, ↓mCatL_e, ↓mRepL_e, ↓mNoPart_e, ↓mPart_e, ↓mSlL_e, ↓mSlS_e, ↓mSlT_e, ↓mCatT_e, ↓mCB_e, ↓mLen_e, ↓mLenS_e, ↓mLenD_e, ↓mInt_e, ↓mBool_e, ↓mStrI_e, ↓mMM_e, ↓mMM3_e, ↓mI1_e, ↓mSum_e, ↓mMax_e, ↓mMin_e, ↓mAll_e, ↓mAnyB_e, ↓mListOf_e, ↓mTupOf_e, ↓mSorted_e, ↓mIsi_e, ↓mNeg_e, ↓mTest_e, ↓mAndT_e, ↓mOrT_e, ↓mNotT_e, ↓mYes_e, ↓mAndV_e, ↓mOrV_e, ↓mNotV_e, ↓mIfE_e, ↓mChain_e, ↓mTru_e, ↓mCall_e, ↓mGN_e, ↓mGNil_e, ↓mGCons_e, ↓mGT_e, ↓mItL_e, ↓mItT_e, ↓mRng1_e, ↓mRng2_e, ↓mItS_e, ↓mEnum_e, ↓mZip_e, ↓mLc_e, ↓mDc_e, ↓mNext_e, ↓mBrk_e, ↓mCnt_e, ↓mSeq_e, ↓mCut_e, ↓mIf_e, ↓mAsg_e, ↓mAsgF_e, ↓mAug_e, ↓mDrop_e, ↓mRet_e, ↓mRetO_e, ↓mApp_e, ↓mPop_e, ↓mPopD_e, ↓mPopAt_e, ↓mSetL_e, ↓mDPut_e, ↓mRev_e, ↓mExt_e, ↓mFrz_e, ↓mFor_e, ↓mWhile_e, ↓mFmt_e, ↓mFmtR_e, ↓mJoin_e, ↓mRaise_e, ↓mRaise0_e, frzE, mJs, itemsD, keyD, isTy, tyD, truD, Dat.flat, wipeE, List.set_cons_zero, List.set_cons_succ, List.getElem?_cons_zero, List.getElem?_cons_succ, Bool.not_true, Bool.not_false, if_true, if_false, ite_true, ite_false, Bool.false_eq_true, true_and, and_true, reduceIte, decide_eq_true_eq, decide_eq_false_iff_not, Bool.not_eq_true', Bool.or_eq_true, Bool.and_eq_true, intsD_len, intsD_cons, intsD_app, exists_eq_left', exists_eq_left, Option.some.injEq, List.all_cons, List.all_nil, List.any_cons, List.any_nil, Nat.zero_le, Int.toNat_natCast, rngD_len, if_max, if_min, Int.zero_add, ↓at_ints_e, ↓at_map_e, getI_nat, getI_0, getI_1, getI_2, getI_3, getI_4, getI_5, getI_6, getI_7, String.reduceBEq, atI_m1, atI_0, atI_1, atI_2, atI_3, atI_4, atI_5, atI_6, atI_7, atI_8, atI_9, eqF_int, eqF_str, Bool.or_false, Bool.or_eq_false_iff, Nat.reduceLeDiff, CMul, CPow, Int.reduceLT, Int.reduceLE, Int.reduceAdd, Int.reduceSub, Int.reduceMul, Int.reduceNeg, Int.reducePow, Int.reduceToNat, Int.reduceEq, Nat.reduceMul, Nat.reducePow, Nat.reduceLT, Nat.reduceEqDiff, or_true, true_or, ge_iff_le, gt_iff_lt, cdiv_of, natAbs_10, natAbs_2, List.getD_cons_zero, List.getD_cons_succ, putS, len_map, cutG_ints, cutG_map, atI_natL, ↓ps_law_parts, ↓ps_law_is_integer, ↓ps_law_cell_e, DrawD, isIntsD, isIntsD_e, pairD_e])
      obtain ⟨p, hp⟩ : ∃ p, w.getLast? = some p := by
        cases e : w.getLast? with
        | none => exact absurd (List.getLast?_eq_none_iff.mp e) hw.ne
        | some p => exact ⟨p, rfl⟩
      refine ⟨p, hp, p, hp, by omega, ?_⟩
      have e : List.map pairD w ++ [Dat.tup [Dat.int (p.1 + l), Dat.int (1 - p.2)]] = List.map pairD (w ++ [(p.1 + l, 1 - p.2)]) := by rw [List.map_append]; rfl
      rw [e]
      exact ⟨[_, _, _, _], ⟨_, _, _, _, rfl, wave_snoc hw hp (by show p.1 < p.1 + l; omega), by rw [List.length_append, List.length_append, hlen]; rfl⟩, rfl⟩
  · rintro vs ⟨w, x, y, z, rfl, hw, hlen⟩
    ((first | unfold FStep | unfold CStep | unfold DStep | unfold WStep | unfold Aft); simp only [startE, List.map_cons, List.map_nil, List.length_cons, List.length_nil, Nat.zero_add, Nat.reduceAdd, Nat.reduceSub, List.replicate_succ, List.replicate_zero, List.cons_append, List.nil_append, ↓mVar_e, ↓mAny_e, ↓mC_e, ↓mFlat_e, ↓mOp_e, ↓mII_e, ↓mIB_e, ↓mIIC_e, ↓mCatS_e, ↓mRepS_e, ↓mEq_e, ↓mNe_e, ↓mIsN_e, ↓mIn_e, ↓mInS_e, ↓mEqD_e, ↓mNeD_e, ↓mIxL_e, ↓mIxT_e, ↓mIxS_e, ↓mTab_e, ↓mDGet_e, ↓mDIn_e, ↓mDGet2_e, ↓mNil_e, ↓mCons_e, ↓mLst_e, ↓mTup_e, ↓mDNew_e, ↓mCatL_e, ↓mRepL_e, ↓mNoPart_e, ↓mPart_e, ↓mSlL_e, ↓mSlS_e, ↓mSlT_e, ↓mCatT_e, ↓mCB_e, ↓mLen_e, ↓mLenS_e, ↓mLenD_e, ↓mInt_e, ↓mBool_e, ↓mStrI_e, ↓mMM_e, ↓mMM3_e, ↓mI1_e, ↓mSum_e, ↓mMax_e, ↓mMin_e, ↓mAll_e, ↓mAnyB_e, ↓mListOf_e, ↓mTupOf_e, ↓mSorted_e, ↓mIsi_e, ↓mNeg_e, ↓mTest_e, ↓mAndT_e, ↓mOrT_e, ↓mNotT_e, ↓mYes_e, ↓mAndV_e, ↓mOrV_e, ↓mNotV_e, ↓mIfE_e, ↓mChain_e, ↓mTru_e, ↓mCall_e, ↓mGN_e, ↓mGNil_e, ↓mGCons_e, ↓mGT_e, ↓mItL_e, ↓mItT_e, ↓mRng1_e, ↓mRng2_e, ↓mItS_e, ↓mEnum_e, ↓mZip_e, ↓mLc_e, ↓mDc_e, ↓mNext_e, ↓mBrk_e, ↓mCnt_e, ↓mSeq_e, ↓mCut_e, ↓mIf_e, ↓mAsg_e, ↓mAsgF_e, ↓mAug_e, ↓mDrop_e, ↓mRet_e, ↓mRetO_e, ↓mApp_e, ↓mPop_e, ↓mPopD_e, ↓mPopAt_e, ↓mSetL_e, ↓mDPut_e, ↓mRev_e, ↓mExt_e, ↓mFrz_e, ↓mFor_e, ↓mWhile_e, ↓mFmt_e, ↓mFmtR_e, ↓mJoin_e, ↓mRaise_e, ↓mRaise0_e, frzE, mJs, itemsD, keyD, isTy, tyD, truD, Dat.flat, wipeE, List.set_cons_zero, List.set_cons_succ, List.getElem?_cons_zero, List.getElem?_cons_succ, Bool.not_true, Bool.not_false, if_true, if_false, ite_true, ite_false, Bool.false_eq_true, true_and, and_true, reduceIte, decide_eq_true_eq, decide_eq_false_iff_not, Bool.not_eq_true', Bool.or_eq_true, Bool.and_eq_true, intsD_len, intsD_cons, intsD_app, exists_eq_left', exists_eq_left, Option.some.injEq, List.all_cons, List.all_nil, List.any_cons, List.any_nil, Nat.zero_le, Int.toNat_natCast, rngD_len, if_max, if_min, Int.zero_add, ↓at_ints_e, ↓at_map_e, getI_nat, getI_0, getI_1, getI_2, getI_3, getI_4, getI_5, getI_6, getI_7, String.reduceBEq, atI_m1, atI_0, atI_1, atI_2, atI_3, atI_4, atI_5, atI_6, atI_7, atI_8, atI_9, eqF_int, eqF_str, Bool.or_false, Bool.or_eq_false_iff, Nat.reduceLeDiff, CMul, CPow, Int.reduceLT, Int.reduceLE, Int.reduceAdd, Int.reduceSub, Int.reduceMul, Int.reduceNeg, Int.reducePow, Int.reduceToNat, Int.reduceEq, Nat.reduceMul, Nat.reducePow, Nat.reduceLT, Nat.reduceEqDiff, or_true, true_or, ge_iff_le, gt_iff_lt, cdiv_of, natAbs_10, natAbs_2, List.getD_cons_zero, List.getD_cons_succ, putS, len_map, cutG_ints, cutG_map, atI_natL, ↓ps_law_parts, ↓ps_law_is_integer, ↓ps_law_cell_e, DrawD, isIntsD, isIntsD_e, pairD_e])
    refine ⟨by have := cutG_len (L := ns) (a := none) (b := some 30); omega, ?_⟩
    refine for_stR [7, 8, 9, 10, 11] (fun k vs => ∃ a b c d e : Option Cel, vs = [a, b, c, d, e]) [none, none, none, none, none] ⟨_, _, _, _, _, rfl⟩ rfl ?_ ?_
    · rintro k vs hk ⟨a1, b1, c1, d1, e1, rfl⟩
      ((first | unfold FStep | unfold CStep | unfold DStep | unfold WStep | unfold Aft); simp only [startE, List.map_cons, List.map_nil, List.length_cons, List.length_nil, Nat.zero_add, Nat.reduceAdd, Nat.reduceSub, List.replicate_succ, List.replicate_zero, List.cons_append, List.nil_append, ↓mVar_e, ↓mAny_e, ↓mC_e, ↓mFlat_e, ↓mOp_e, ↓mII_e, ↓mIB_e, ↓mIIC_e, ↓mCatS_e, ↓mRepS_e, ↓mEq_e, ↓mNe_e, ↓mIsN_e, ↓mIn_e, ↓mInS_e, ↓mEqD_e, ↓mNeD_e, ↓mIxL_e, ↓mIxT_e, ↓mIxS_e, ↓mTab_e, ↓mDGet_e, ↓mDIn_e, ↓mDGet2_e, ↓mNil_e, ↓mCons_e, ↓mLst_e, ↓mTup_e, ↓mDNew_e, ↓mCatL_e, ↓mRepL_e, ↓mNoPart_e, ↓mPart_e, ↓mSlL_e, ↓mSlS_e, ↓mSlT_e, ↓mCatT_e, ↓mCB_e, ↓mLen_e, ↓mLenS_e, ↓mLenD_e, ↓mInt_e, ↓mBool_e, ↓mStrI_e, ↓mMM_e, ↓mMM3_e, ↓mI1_e, ↓mSum_e, ↓mMax_e, ↓mMin_e, ↓mAll_e, ↓mAnyB_e, ↓mListOf_e, ↓mTupOf_e, ↓mSorted_e, ↓mIsi_e, ↓mNeg_e, ↓mTest_e, ↓mAndT_e, ↓mOrT_e, ↓mNotT_e, ↓mYes_e, ↓mAndV_e, ↓mOrV_e, ↓mNotV_e, ↓mIfE_e, ↓mChain_e, ↓mTru_e, ↓mCall_e, ↓mGN_e, ↓mGNil_e, ↓mGCons_e, ↓mGT_e, ↓mItL_e, ↓mItT_e, ↓mRng1_e, ↓mRng2_e, ↓mItS_e, ↓mEnum_e, ↓mZip_e, ↓mLc_e, ↓mDc_e, ↓mNext_e, ↓mBrk_e, ↓mCnt_e, ↓mSeq_e, ↓mCut_e, ↓mIf_e, ↓mAsg_e, ↓mAsgF_e, ↓mAug_e, ↓mDrop_e, ↓mRet_e, ↓mRetO_e, ↓mApp_e, ↓mPop_e, ↓mPopD_e, ↓mPopAt_e, ↓mSetL_e, ↓mDPut_e, ↓mRev_e, ↓mExt_e, ↓mFrz_e, ↓mFor_e, ↓mWhile_e, ↓mFmt_e, ↓mFmtR_e, ↓mJoin_e, ↓mRaise_e, ↓mRaise0_e, frzE, mJs, itemsD, keyD, isTy, tyD, truD, Dat.flat, wipeE, List.set_cons_zero, List.set_cons_succ, List.getElem?_cons_zero, List.getElem?_cons_succ, Bool.not_true, Bool.not_false, if_true, if_false, ite_true, ite_false, Bool.false_eq_true, true_and, and_true, reduceIte, decide_eq_true_eq, decide_eq_false_iff_not, Bool.not_eq_true', Bool.or_eq_true, Bool.and_eq_true, intsD_len, intsD_cons, intsD_app, exists_eq_left', exists_eq_left, Option.some.injEq, List.all_cons, List.all_nil, List.any_cons, List.any_nil, Nat.zero_le, Int.toNat_natCast, rngD_len, if_max, if_min, Int.zero_add, ↓at_ints_e, ↓at_map_e, getI_nat, getI_0, getI_1, getI_2, getI_3, getI_4, getI_5, getI_6, getI_7, String.reduceBEq, atI_m1, atI_0, atI_1, atI_2, atI_3, atI_4, atI_5, atI_6, atI_7, atI_8, atI_9, eqF_int, eqF_str, Bool.or_false, Bool.or_eq_false_iff, Nat.reduceLeDiff, CMul, CPow, Int.reduceLT, Int.reduceLE, Int.reduceAdd, Int.reduceSub, Int.reduceMul, Int.reduceNeg, Int.reducePow, Int.reduceToNat, Int.reduceEq, Nat.reduceMul, Nat.reducePow, Nat.reduceLT, Nat.reduceEqDiff, or_true, true_or, ge_iff_le, gt_iff_lt, cdiv_of, natAbs_10, natAbs_2, List.getD_cons_zero, List.getD_cons_succ, putS, len_map, cutG_ints, cutG_map, atI_natL, ↓ps_law_parts, ↓ps_law_is_integer, ↓ps_law_cell_e, DrawD, isIntsD, isIntsD_e, pairD_e])
      have hp : w[k]? = some (w[k]'hk) := List.getElem?_eq_getElem hk
      generalize w[k]'hk = p at hp
      have hw0 : w.length ≤ 50000 := by have := cutG_len (L := ns) (a := none) (b := some 30); omega
      have at0 : atW w p.1 = some p.2 := wave_at hw hp (by omega) fun r hr => up_lt hw hp hr
      refine ⟨p, hp, p, hp, p, hp, p, hp, ?_⟩
      refine cut_st [8, 9] (fun vs => ∃ tr vr : List Int, vs = [some (.own (.list (intsD (p.1 :: (p.1 + 1) :: tr)))), some (.own (.list (intsD (p.2 :: p.2 :: vr))))] ∧ ((tr = [] ∧ vr = []) ∨ ∃ t v, tr = [t] ∧ vr = [v] ∧ atW w t = some v)) ?_ ?_
      · split
        · rename_i h
          obtain ⟨j, rfl⟩ : ∃ j, k = j + 1 := ⟨k - 1, by omega⟩
          have hj : j < w.length := by omega
          have hr : w[j]? = some (w[j]'hj) := List.getElem?_eq_getElem hj
          generalize w[j]'hj = r at hr
          have e : (((j + 1 : Nat) : Int) - 1) = (j : Int) := by omega
          rw [e, atI_natL]
          refine ⟨p, hp, r, hr, [_, _], ⟨[p.1 - 1], [r.2], rfl, .inr ⟨_, _, rfl, rfl, wave_at hw hr (by have := up_lt hw hr hp; omega) fun x hx => ?_⟩⟩, rfl⟩
          rw [hp] at hx
          cases hx
          omega
        · exact ⟨[_, _], ⟨[], [], rfl, .inl ⟨rfl, rfl⟩⟩, rfl⟩
      · rintro vs ⟨tr, vr, rfl, hv⟩
        ((first | unfold FStep | unfold CStep | unfold DStep | unfold WStep | unfold Aft); simp only [startE, List.map_cons, List.map_nil, List.length_cons, List.length_nil, Nat.zero_add, Nat.reduceAdd, Nat.reduceSub, List.replicate_succ, List.replicate_zero, List.cons_append, List.nil_append, ↓mVar_e, ↓mAny_e, ↓mC_e, ↓mFlat_e, ↓mOp_e, ↓mII_e, ↓mIB_e, ↓mIIC_e, ↓mCatS_e, ↓mRepS_e, ↓mEq_e, ↓mNe_e, ↓mIsN_e, ↓mIn_e, ↓mInS_e, ↓mEqD_e, ↓mNeD_e, ↓mIxL_e, ↓mIxT_e, ↓mIxS_e, ↓mTab_e, ↓mDGet_e, ↓mDIn_e, ↓mDGet2_e, ↓mNil_e, ↓mCons_e, ↓mLst_e, ↓mTup_e, ↓mDNew_e, ↓mCatL_e, ↓mRepL_e, ↓mNoPart_e, ↓mPart_e, ↓mSlL_e, ↓mSlS_e, ↓mSlT_e, ↓mCatT_e, ↓mCB_e, ↓mLen_e, ↓mLenS_e, ↓mLenD_e, ↓mInt_e, ↓mBool_e, ↓mStrI_e, ↓mMM_e, ↓mMM3_e, ↓mI1_e, ↓mSum_e, ↓mMax_e, ↓mMin_e, ↓mAll_e, ↓mAnyB_e, ↓mListOf_e, ↓mTupOf_e, ↓mSorted_e, ↓mIsi_e, ↓mNeg_e, ↓mTest_e, ↓mAndT_e, ↓mOrT_e, ↓mNotT_e, ↓mYes_e, ↓mAndV_e, ↓mOrV_e, ↓mNotV_e, ↓mIfE_e, ↓mChain_e, ↓mTru_e, ↓mCall_e, ↓mGN_e, ↓mGNil_e, ↓mGCons_e, ↓mGT_e, ↓mItL_e, ↓mItT_e, ↓mRng1_e, ↓mRng2_e, ↓mItS_e, ↓mEnum_e, ↓mZip_e, ↓mLc_e, ↓mDc_e, ↓mNext_e, ↓mBrk_e, ↓mCnt_e, ↓mSeq_e, ↓mCut_e, ↓mIf_e, ↓mAsg_e, ↓mAsgF_e, ↓mAug_e, ↓mDrop_e, ↓mRet_e, ↓mRetO_e, ↓mApp_e, ↓mPop_e, ↓mPopD_e, ↓mPopAt_e, ↓mSetL_e, ↓mDPut_e, ↓mRev_e, ↓mExt_e, ↓mFrz_e, ↓mFor_e, ↓mWhile_e, ↓mFmt_e, ↓mFmtR_e, ↓mJoin_e, ↓mRaise_e, ↓mRaise0_e, frzE, mJs, itemsD, keyD, isTy, tyD, truD, Dat.flat, wipeE, List.set_cons_zero, List.set_cons_succ, List.getElem?_cons_zero, List.getElem?_cons_succ, Bool.not_true, Bool.not_false, if_true, if_false, ite_true, ite_false, Bool.false_eq_true, true_and, and_true, reduceIte, decide_eq_true_eq, decide_eq_false_iff_not, Bool.not_eq_true', Bool.or_eq_true, Bool.and_eq_true, intsD_len, intsD_cons, intsD_app, exists_eq_left', exists_eq_left, Option.some.injEq, List.all_cons, List.all_nil, List.any_cons, List.any_nil, Nat.zero_le, Int.toNat_natCast, rngD_len, if_max, if_min, Int.zero_add, ↓at_ints_e, ↓at_map_e, getI_nat, getI_0, getI_1, getI_2, getI_3, getI_4, getI_5, getI_6, getI_7, String.reduceBEq, atI_m1, atI_0, atI_1, atI_2, atI_3, atI_4, atI_5, atI_6, atI_7, atI_8, atI_9, eqF_int, eqF_str, Bool.or_false, Bool.or_eq_false_iff, Nat.reduceLeDiff, CMul, CPow, Int.reduceLT, Int.reduceLE, Int.reduceAdd, Int.reduceSub, Int.reduceMul, Int.reduceNeg, Int.reducePow, Int.reduceToNat, Int.reduceEq, Nat.reduceMul, Nat.reducePow, Nat.reduceLT, Nat.reduceEqDiff, or_true, true_or, ge_iff_le, gt_iff_lt, cdiv_of, natAbs_10, natAbs_2, List.getD_cons_zero, List.getD_cons_succ, putS, len_map, cutG_ints, cutG_map, atI_natL, ↓ps_law_parts, ↓ps_law_is_integer, ↓ps_law_cell_e, DrawD, isIntsD, isIntsD_e, pairD_e])
        have hl2 : tr.length = vr.length ∧ tr.length ≤ 1 := by
          rcases hv with ⟨rfl, rfl⟩ | ⟨t, v, rfl, rfl, _⟩ <;> exact ⟨rfl, by simp⟩
        refine cut_st [9] (fun vs => ∃ v1 : Int, vs = [some (.own (.list (intsD (p.2 :: v1 :: vr))))] ∧ atW w (p.1 + 1) = some v1) ?_ ?_
        · have stay : (∀ r, w[k + 1]? = some r → ¬ r.1 = p.1 + 1) → atW w (p.1 + 1) = some p.2 := fun h => wave_at hw hp (by omega) fun r hr => by
            have := h r hr
            have := up_lt hw hp hr
            omega
          have e1 : ((k : Int) + 1) = ((k + 1 : Nat) : Int) := by omega
          split
          · rename_i h
            have hk1 : k + 1 < w.length := by omega
            have hr : w[k + 1]? = some (w[k + 1]'hk1) := List.getElem?_eq_getElem hk1
            generalize w[k + 1]'hk1 = r at hr
            rw [e1, atI_natL]
            refine ⟨r, hr, p, hp, ?_⟩
            split
            · rename_i he
              refine ⟨r, hr, 1, by simp [ixN]; omega, [_], ⟨r.2, rfl, ?_⟩, rfl⟩
              rw [← he]
              refine wave_at hw hr (by omega) fun z hz => up_lt hw hr hz
            · rename_i he
              refine ⟨[_], ⟨p.2, rfl, stay fun z hz => ?_⟩, rfl⟩
              rw [hr] at hz
              cases hz
              exact he
          · rename_i h
            refine ⟨[_], ⟨p.2, rfl, stay fun z hz => ?_⟩, rfl⟩
            rw [List.getElem?_eq_none (by omega)] at hz
            cases hz
        · rintro vs ⟨v1, rfl, hv1⟩
          ((first | unfold FStep | unfold CStep | unfold DStep | unfold WStep | unfold Aft); simp only [startE, List.map_cons, List.map_nil, List.length_cons, List.length_nil, Nat.zero_add, Nat.reduceAdd, Nat.reduceSub, List.replicate_succ, List.replicate_zero, List.cons_append, List.nil_append, ↓mVar_e, ↓mAny_e, ↓mC_e, ↓mFlat_e, ↓mOp_e, ↓mII_e, ↓mIB_e, ↓mIIC_e, ↓mCatS_e, ↓mRepS_e, ↓mEq_e, ↓mNe_e, ↓mIsN_e, ↓mIn_e, ↓mInS_e, ↓mEqD_e, ↓mNeD_e, ↓mIxL_e, ↓mIxT_e, ↓mIxS_e, ↓mTab_e, ↓mDGet_e, ↓mDIn_e, ↓mDGet2_e, ↓mNil_e, ↓mCons_e, ↓mLst_e, ↓mTup_e, ↓mDNew_e, ↓mCatL_e, ↓mRepL_e, ↓mNoPart_e, ↓mPart_e, ↓mSlL_e, ↓mSlS_e, ↓mSlT_e, ↓mCatT_e, ↓mCB_e, ↓mLen_e, ↓mLenS_e, ↓mLenD_e, ↓mInt_e, ↓mBool_e, ↓mStrI_e, ↓mMM_e, ↓mMM3_e, ↓mI1_e, ↓mSum_e, ↓mMax_e, ↓mMin_e, ↓mAll_e, ↓mAnyB_e, ↓mListOf_e, ↓mTupOf_e, ↓mSorted_e, ↓mIsi_e, ↓mNeg_e, ↓mTest_e, ↓mAndT_e, ↓mOrT_e, ↓mNotT_e, ↓mYes_e, ↓mAndV_e, ↓mOrV_e, ↓mNotV_e, ↓mIfE_e, ↓mChain_e, ↓mTru_e, ↓mCall_e, ↓mGN_e, ↓mGNil_e, ↓mGCons_e, ↓mGT_e, ↓mItL_e, ↓mItT_e, ↓mRng1_e, ↓mRng2_e, ↓mItS_e, ↓mEnum_e, ↓mZip_e, ↓mLc_e, ↓mDc_e, ↓mNext_e, ↓mBrk_e, ↓mCnt_e, ↓mSeq_e, ↓mCut_e, ↓mIf_e, ↓mAsg_e, ↓mAsgF_e, ↓mAug_e, ↓mDrop_e, ↓mRet_e, ↓mRetO_e, ↓mApp_e, ↓mPop_e, ↓mPopD_e, ↓mPopAt_e, ↓mSetL_e, ↓mDPut_e, ↓mRev_e, ↓mExt_e, ↓mFrz_e, ↓mFor_e, ↓mWhile_e, ↓mFmt_e, ↓mFmtR_e, ↓mJoin_e, ↓mRaise_e, ↓mRaise0_e, frzE, mJs, itemsD, keyD, isTy, tyD, truD, Dat.flat, wipeE, List.set_cons_zero, List.set_cons_succ, List.getElem?_cons_zero, List.getElem?_cons_succ, Bool.not_true, Bool.not_false, if_true, if_false, ite_true, ite_false, Bool.false_eq_true, true_and, and_true, reduceIte, decide_eq_true_eq, decide_eq_false_iff_not, Bool.not_eq_true', Bool.or_eq_true, Bool.and_eq_true, intsD_len, intsD_cons, intsD_app, exists_eq_left', exists_eq_left, Option.some.injEq, List.all_cons, List.all_nil, List.any_cons, List.any_nil, Nat.zero_le, Int.toNat_natCast, rngD_len, if_max, if_min, Int.zero_add, ↓at_ints_e, ↓at_map_e, getI_nat, getI_0, getI_1, getI_2, getI_3, getI_4, getI_5, getI_6, getI_7, String.reduceBEq, atI_m1, atI_0, atI_1, atI_2, atI_3, atI_4, atI_5, atI_6, atI_7, atI_8, atI_9, eqF_int, eqF_str, Bool.or_false, Bool.or_eq_false_iff, Nat.reduceLeDiff, CMul, CPow, Int.reduceLT, Int.reduceLE, Int.reduceAdd, Int.reduceSub, Int.reduceMul, Int.reduceNeg, Int.reducePow, Int.reduceToNat, Int.reduceEq, Nat.reduceMul, Nat.reducePow, Nat.reduceLT, Nat.reduceEqDiff, or_true, true_or, ge_iff_le, gt_iff_lt, cdiv_of, natAbs_10, natAbs_2, List.getD_cons_zero, List.getD_cons_succ, putS, len_map, cutG_ints, cutG_map, atI_natL, ↓ps_law_parts, ↓ps_law_is_integer, ↓ps_law_cell_e, DrawD, isIntsD, isIntsD_e, pairD_e])
          refine ⟨by omega, ?_⟩
          have all : ∀ n, n < tr.length + 1 + 1 → atW w ((p.1 :: (p.1 + 1) :: tr).getD n 0) = some ((p.2 :: v1 :: vr).getD n 0) := fun n hn => by
            cases n with
            | zero => exact at0
            | succ n =>
              cases n with
              | zero => exact hv1
              | succ n =>
                rcases hv with ⟨rfl, rfl⟩ | ⟨t, v, rfl, rfl, hv⟩
                · exact absurd hn (by simp)
                · have : n = 0 := by simp at hn; omega
                  subst this
                  exact hv
          refine for_stR [10, 11] (fun n vs => ∃ a b : Option Cel, vs = [a, b]) [d1, e1] ⟨_, _, rfl⟩ rfl ?_ ?_
          · rintro n vs hn ⟨a2, b2, rfl⟩
            ((first | unfold FStep | unfold CStep | unfold DStep | unfold WStep | unfold Aft); simp only [startE, List.map_cons, List.map_nil, List.length_cons, List.length_nil, Nat.zero_add, Nat.reduceAdd, Nat.reduceSub, List.replicate_succ, List.replicate_zero, List.cons_append, List.nil_append, ↓mVar_e, ↓mAny_e, ↓mC_e, ↓mFlat_e, ↓mOp_e, ↓mII_e, ↓mIB_e, ↓mIIC_e, ↓mCatS_e, ↓mRepS_e, ↓mEq_e, ↓mNe_e, ↓mIsN_e, ↓mIn_e, ↓mInS_e, ↓mEqD_e, ↓mNeD_e, ↓mIxL_e, ↓mIxT_e, ↓mIxS_e, ↓mTab_e, ↓mDGet_e, ↓mDIn_e, ↓mDGet2_e, ↓mNil_e, ↓mCons_e, ↓mLst_e, ↓mTup_e, ↓mDNew_e, ↓mCatL_e, ↓mRepL_e, ↓mNoPart_e, ↓mPart_e, ↓mSlL_e, ↓mSlS_e, ↓mSlT_e, ↓mCatT_e, ↓mCB_e, ↓mLen_e, ↓mLenS_e, ↓mLenD_e, ↓mInt_e, ↓mBool_e, ↓mStrI_e, ↓mMM_e, ↓mMM3_e, ↓mI1_e, ↓mSum_e, ↓mMax_e, ↓mMin_e, ↓mAll_e, ↓mAnyB_e, ↓mListOf_e, ↓mTupOf_e, ↓mSorted_e, ↓mIsi_e, ↓mNeg_e, ↓mTest_e, ↓mAndT_e, ↓mOrT_e, ↓mNotT_e, ↓mYes_e, ↓mAndV_e, ↓mOrV_e, ↓mNotV_e, ↓mIfE_e, ↓mChain_e, ↓mTru_e, ↓mCall_e, ↓mGN_e, ↓mGNil_e, ↓mGCons_e, ↓mGT_e, ↓mItL_e, ↓mItT_e, ↓mRng1_e, ↓mRng2_e, ↓mItS_e, ↓mEnum_e, ↓mZip_e, ↓mLc_e, ↓mDc_e, ↓mNext_e, ↓mBrk_e, ↓mCnt_e, ↓mSeq_e, ↓mCut_e, ↓mIf_e, ↓mAsg_e, ↓mAsgF_e, ↓mAug_e, ↓mDrop_e, ↓mRet_e, ↓mRetO_e, ↓mApp_e, ↓mPop_e, ↓mPopD_e, ↓mPopAt_e, ↓mSetL_e, ↓mDPut_e, ↓mRev_e, ↓mExt_e, ↓mFrz_e, ↓mFor_e, ↓mWhile_e, ↓mFmt_e, ↓mFmtR_e, ↓mJoin_e, ↓mRaise_e, ↓mRaise0_e, frzE, mJs, itemsD, keyD, isTy, tyD, truD, Dat.flat, wipeE, List.set_cons_zero, List.set_cons_succ, List.getElem?_cons_zero, List.getElem?_cons_succ, Bool.not_true, Bool.not_false, if_true, if_false, ite_true, ite_false, Bool.false_eq_true, true_and, and_true, reduceIte, decide_eq_true_eq, decide_eq_false_iff_not, Bool.not_eq_true', Bool.or_eq_true, Bool.and_eq_true, intsD_len, intsD_cons, intsD_app, exists_eq_left', exists_eq_left, Option.some.injEq, List.all_cons, List.all_nil, List.any_cons, List.any_nil, Nat.zero_le, Int.toNat_natCast, rngD_len, if_max, if_min, Int.zero_add, ↓at_ints_e, ↓at_map_e, getI_nat, getI_0, getI_1, getI_2, getI_3, getI_4, getI_5, getI_6, getI_7, String.reduceBEq, atI_m1, atI_0, atI_1, atI_2, atI_3, atI_4, atI_5, atI_6, atI_7, atI_8, atI_9, eqF_int, eqF_str, Bool.or_false, Bool.or_eq_false_iff, Nat.reduceLeDiff, CMul, CPow, Int.reduceLT, Int.reduceLE, Int.reduceAdd, Int.reduceSub, Int.reduceMul, Int.reduceNeg, Int.reducePow, Int.reduceToNat, Int.reduceEq, Nat.reduceMul, Nat.reducePow, Nat.reduceLT, Nat.reduceEqDiff, or_true, true_or, ge_iff_le, gt_iff_lt, cdiv_of, natAbs_10, natAbs_2, List.getD_cons_zero, List.getD_cons_succ, putS, len_map, cutG_ints, cutG_map, atI_natL, ↓ps_law_parts, ↓ps_law_is_integer, ↓ps_law_cell_e, DrawD, isIntsD, isIntsD_e, pairD_e])
            refine ⟨by omega, w, _, _, rfl, hw0, all n hn, ?_⟩
            simp only [startE, List.map_cons, List.map_nil, List.length_cons, List.length_nil, Nat.zero_add, Nat.reduceAdd, Nat.reduceSub, List.replicate_succ, List.replicate_zero, List.cons_append, List.nil_append, ↓mVar_e, ↓mAny_e, ↓mC_e, ↓mFlat_e, ↓mOp_e, ↓mII_e, ↓mIB_e, ↓mIIC_e, ↓mCatS_e, ↓mRepS_e, ↓mEq_e, ↓mNe_e, ↓mIsN_e, ↓mIn_e, ↓mInS_e, ↓mEqD_e, ↓mNeD_e, ↓mIxL_e, ↓mIxT_e, ↓mIxS_e, ↓mTab_e, ↓mDGet_e, ↓mDIn_e, ↓mDGet2_e, ↓mNil_e, ↓mCons_e, ↓mLst_e, ↓mTup_e, ↓mDNew_e, ↓mCatL_e, ↓mRepL_e, ↓mNoPart_e, ↓mPart_e, ↓mSlL_e, ↓mSlS_e, ↓mSlT_e, ↓mCatT_e, ↓mCB_e, ↓mLen_e, ↓mLenS_e, ↓mLenD_e, ↓mInt_e, ↓mBool_e, ↓mStrI_e, ↓mMM_e, ↓mMM3_e, ↓mI1_e, ↓mSum_e, ↓mMax_e, ↓mMin_e, ↓mAll_e, ↓mAnyB_e, ↓mListOf_e, ↓mTupOf_e, ↓mSorted_e, ↓mIsi_e, ↓mNeg_e, ↓mTest_e, ↓mAndT_e, ↓mOrT_e, ↓mNotT_e, ↓mYes_e, ↓mAndV_e, ↓mOrV_e, ↓mNotV_e, ↓mIfE_e, ↓mChain_e, ↓mTru_e, ↓mCall_e, ↓mGN_e, ↓mGNil_e, ↓mGCons_e, ↓mGT_e, ↓mItL_e, ↓mItT_e, ↓mRng1_e, ↓mRng2_e, ↓mItS_e, ↓mEnum_e, ↓mZip_e, ↓mLc_e, ↓mDc_e, ↓mNext_e, ↓mBrk_e, ↓mCnt_e, ↓mSeq_e, ↓mCut_e, ↓mIf_e, ↓mAsg_e, ↓mAsgF_e, ↓mAug_e, ↓mDrop_e, ↓mRet_e, ↓mRetO_e, ↓mApp_e, ↓mPop_e, ↓mPopD_e, ↓mPopAt_e, ↓mSetL_e, ↓mDPut_e, ↓mRev_e, ↓mExt_e, ↓mFrz_e, ↓mFor_e, ↓mWhile_e, ↓mFmt_e, ↓mFmtR_e, ↓mJoin_e, ↓mRaise_e, ↓mRaise0_e, frzE, mJs, itemsD, keyD, isTy, tyD, truD, Dat.flat, wipeE, List.set_cons_zero, List.set_cons_succ, List.getElem?_cons_zero, List.getElem?_cons_succ, Bool.not_true, Bool.not_false, if_true, if_false, ite_true, ite_false, Bool.false_eq_true, true_and, and_true, reduceIte, decide_eq_true_eq, decide_eq_false_iff_not, Bool.not_eq_true', Bool.or_eq_true, Bool.and_eq_true, intsD_len, intsD_cons, intsD_app, exists_eq_left', exists_eq_left, Option.some.injEq, List.all_cons, List.all_nil, List.any_cons, List.any_nil, Nat.zero_le, Int.toNat_natCast, rngD_len, if_max, if_min, Int.zero_add, ↓at_ints_e, ↓at_map_e, getI_nat, getI_0, getI_1, getI_2, getI_3, getI_4, getI_5, getI_6, getI_7, String.reduceBEq, atI_m1, atI_0, atI_1, atI_2, atI_3, atI_4, atI_5, atI_6, atI_7, atI_8, atI_9, eqF_int, eqF_str, Bool.or_false, Bool.or_eq_false_iff, Nat.reduceLeDiff, CMul, CPow, Int.reduceLT, Int.reduceLE, Int.reduceAdd, Int.reduceSub, Int.reduceMul, Int.reduceNeg, Int.reducePow, Int.reduceToNat, Int.reduceEq, Nat.reduceMul, Nat.reducePow, Nat.reduceLT, Nat.reduceEqDiff, or_true, true_or, ge_iff_le, gt_iff_lt, cdiv_of, natAbs_10, natAbs_2, List.getD_cons_zero, List.getD_cons_succ, putS, len_map, cutG_ints, cutG_map, atI_natL, ↓ps_law_parts, ↓ps_law_is_integer, ↓ps_law_cell_e, DrawD, isIntsD, isIntsD_e, pairD_e]
            refine ⟨by omega, ?_⟩
            rw [if_neg (fun h => h trivial)]
            exact ⟨[_, _], ⟨_, _, rfl⟩, rfl⟩
          · rintro vs ⟨a2, b2, rfl⟩
            ((first | unfold FStep | unfold CStep | unfold DStep | unfold WStep | unfold Aft); simp only [startE, List.map_cons, List.map_nil, List.length_cons, List.length_nil, Nat.zero_add, Nat.reduceAdd, Nat.reduceSub, List.replicate_succ, List.replicate_zero, List.cons_append, List.nil_append, ↓mVar_e, ↓mAny_e, ↓mC_e, ↓mFlat_e, ↓mOp_e, ↓mII_e, ↓mIB_e, ↓mIIC_e, ↓mCatS_e, ↓mRepS_e, ↓mEq_e, ↓mNe_e, ↓mIsN_e, ↓mIn_e, ↓mInS_e, ↓mEqD_e, ↓mNeD_e, ↓mIxL_e, ↓mIxT_e, ↓mIxS_e, ↓mTab_e, ↓mDGet_e, ↓mDIn_e, ↓mDGet2_e, ↓mNil_e, ↓mCons_e, ↓mLst_e, ↓mTup_e, ↓mDNew_e, ↓mCatL_e, ↓mRepL_e, ↓mNoPart_e, ↓mPart_e, ↓mSlL_e, ↓mSlS_e, ↓mSlT_e, ↓mCatT_e, ↓mCB_e, ↓mLen_e, ↓mLenS_e, ↓mLenD_e, ↓mInt_e, ↓mBool_e, ↓mStrI_e, ↓mMM_e, ↓mMM3_e, ↓mI1_e, ↓mSum_e, ↓mMax_e, ↓mMin_e, ↓mAll_e, ↓mAnyB_e, ↓mListOf_e, ↓mTupOf_e, ↓mSorted_e, ↓mIsi_e, ↓mNeg_e, ↓mTest_e, ↓mAndT_e, ↓mOrT_e, ↓mNotT_e, ↓mYes_e, ↓mAndV_e, ↓mOrV_e, ↓mNotV_e, ↓mIfE_e, ↓mChain_e, ↓mTru_e, ↓mCall_e, ↓mGN_e, ↓mGNil_e, ↓mGCons_e, ↓mGT_e, ↓mItL_e, ↓mItT_e, ↓mRng1_e, ↓mRng2_e, ↓mItS_e, ↓mEnum_e, ↓mZip_e, ↓mLc_e, ↓mDc_e, ↓mNext_e, ↓mBrk_e, ↓mCnt_e, ↓mSeq_e, ↓mCut_e, ↓mIf_e, ↓mAsg_e, ↓mAsgF_e, ↓mAug_e, ↓mDrop_e, ↓mRet_e, ↓mRetO_e, ↓mApp_e, ↓mPop_e, ↓mPopD_e, ↓mPopAt_e, ↓mSetL_e, ↓mDPut_e, ↓mRev_e, ↓mExt_e, ↓mFrz_e, ↓mFor_e, ↓mWhile_e, ↓mFmt_e, ↓mFmtR_e, ↓mJoin_e, ↓mRaise_e, ↓mRaise0_e, frzE, mJs, itemsD, keyD, isTy, tyD, truD, Dat.flat, wipeE, List.set_cons_zero, List.set_cons_succ, List.getElem?_cons_zero, List.getElem?_cons_succ, Bool.not_true, Bool.not_false, if_true, if_false, ite_true, ite_false, Bool.false_eq_true, true_and, and_true, reduceIte, decide_eq_true_eq, decide_eq_false_iff_not, Bool.not_eq_true', Bool.or_eq_true, Bool.and_eq_true, intsD_len, intsD_cons, intsD_app, exists_eq_left', exists_eq_left, Option.some.injEq, List.all_cons, List.all_nil, List.any_cons, List.any_nil, Nat.zero_le, Int.toNat_natCast, rngD_len, if_max, if_min, Int.zero_add, ↓at_ints_e, ↓at_map_e, getI_nat, getI_0, getI_1, getI_2, getI_3, getI_4, getI_5, getI_6, getI_7, String.reduceBEq, atI_m1, atI_0, atI_1, atI_2, atI_3, atI_4, atI_5, atI_6, atI_7, atI_8, atI_9, eqF_int, eqF_str, Bool.or_false, Bool.or_eq_false_iff, Nat.reduceLeDiff, CMul, CPow, Int.reduceLT, Int.reduceLE, Int.reduceAdd, Int.reduceSub, Int.reduceMul, Int.reduceNeg, Int.reducePow, Int.reduceToNat, Int.reduceEq, Nat.reduceMul, Nat.reducePow, Nat.reduceLT, Nat.reduceEqDiff, or_true, true_or, ge_iff_le, gt_iff_lt, cdiv_of, natAbs_10, natAbs_2, List.getD_cons_zero, List.getD_cons_succ, putS, len_map, cutG_ints, cutG_map, atI_natL, ↓ps_law_parts, ↓ps_law_is_integer, ↓ps_law_cell_e, DrawD, isIntsD, isIntsD_e, pairD_e])
            exact ⟨[_, _, _, _, _], ⟨_, _, _, _, _, rfl⟩, rfl⟩
    · rintro vs ⟨a1, b1, c1, d1, e1, rfl⟩
      ((first | unfold FStep | unfold CStep | unfold DStep | unfold WStep | unfold Aft); simp only [startE, List.map_cons, List.map_nil, List.length_cons, List.length_nil, Nat.zero_add, Nat.reduceAdd, Nat.reduceSub, List.replicate_succ, List.replicate_zero, List.cons_append, List.nil_append, ↓mVar_e, ↓mAny_e, ↓mC_e, ↓mFlat_e, ↓mOp_e, ↓mII_e, ↓mIB_e, ↓mIIC_e, ↓mCatS_e, ↓mRepS_e, ↓mEq_e, ↓mNe_e, ↓mIsN_e, ↓mIn_e, ↓mInS_e, ↓mEqD_e, ↓mNeD_e, ↓mIxL_e, ↓mIxT_e, ↓mIxS_e, ↓mTab_e, ↓mDGet_e, ↓mDIn_e, ↓mDGet2_e, ↓mNil_e, ↓mCons_e, ↓mLst_e, ↓mTup_e, ↓mDNew_e, ↓mCatL_e, ↓mRepL_e, ↓mNoPart_e, ↓mPart_e, ↓mSlL_e, ↓mSlS_e, ↓mSlT_e, ↓mCatT_e, ↓mCB_e, ↓mLen_e, ↓mLenS_e, ↓mLenD_e, ↓mInt_e, ↓mBool_e, ↓mStrI_e, ↓mMM_e, ↓mMM3_e, ↓mI1_e, ↓mSum_e, ↓mMax_e, ↓mMin_e, ↓mAll_e, ↓mAnyB_e, ↓mListOf_e, ↓mTupOf_e, ↓mSorted_e, ↓mIsi_e, ↓mNeg_e, ↓mTest_e, ↓mAndT_e, ↓mOrT_e, ↓mNotT_e, ↓mYes_e, ↓mAndV_e, ↓mOrV_e, ↓mNotV_e, ↓mIfE_e, ↓mChain_e, ↓mTru_e, ↓mCall_e, ↓mGN_e, ↓mGNil_e, ↓mGCons_e, ↓mGT_e, ↓mItL_e, ↓mItT_e, ↓mRng1_e, ↓mRng2_e, ↓mItS_e, ↓mEnum_e, ↓mZip_e, ↓mLc_e, ↓mDc_e, ↓mNext_e, ↓mBrk_e, ↓mCnt_e, ↓mSeq_e, ↓mCut_e, ↓mIf_e, ↓mAsg_e, ↓mAsgF_e, ↓mAug_e, ↓mDrop_e, ↓mRet_e, ↓mRetO_e, ↓mApp_e, ↓mPop_e, ↓mPopD_e, ↓mPopAt_e, ↓mSetL_e, ↓mDPut_e, ↓mRev_e, ↓mExt_e, ↓mFrz_e, ↓mFor_e, ↓mWhile_e, ↓mFmt_e, ↓mFmtR_e, ↓mJoin_e, ↓mRaise_e, ↓mRaise0_e, frzE, mJs, itemsD, keyD, isTy, tyD, truD, Dat.flat, wipeE, List.set_cons_zero, List.set_cons_succ, List.getElem?_cons_zero, List.getElem?_cons_succ, Bool.not_true, Bool.not_false, if_true, if_false, ite_true, ite_false, Bool.false_eq_true, true_and, and_true, reduceIte, decide_eq_true_eq, decide_eq_false_iff_not, Bool.not_eq_true', Bool.or_eq_true, Bool.and_eq_true, intsD_len, intsD_cons, intsD_app, exists_eq_left', exists_eq_left, Option.some.injEq, List.all_cons, List.all_nil, List.any_cons, List.any_nil, Nat.zero_le, Int.toNat_natCast, rngD_len, if_max, if_min, Int.zero_add, ↓at_ints_e, ↓at_map_e, getI_nat, getI_0, getI_1, getI_2, getI_3, getI_4, getI_5, getI_6, getI_7, String.reduceBEq, atI_m1, atI_0, atI_1, atI_2, atI_3, atI_4, atI_5, atI_6, atI_7, atI_8, atI_9, eqF_int, eqF_str, Bool.or_false, Bool.or_eq_false_iff, Nat.reduceLeDiff, CMul, CPow, Int.reduceLT, Int.reduceLE, Int.reduceAdd, Int.reduceSub, Int.reduceMul, Int.reduceNeg, Int.reducePow, Int.reduceToNat, Int.reduceEq, Nat.reduceMul, Nat.reducePow, Nat.reduceLT, Nat.reduceEqDiff, or_true, true_or, ge_iff_le, gt_iff_lt, cdiv_of, natAbs_10, natAbs_2, List.getD_cons_zero, List.getD_cons_succ, putS, len_map, cutG_ints, cutG_map, atI_natL, ↓ps_law_parts, ↓ps_law_is_integer, ↓ps_law_cell_e, DrawD, isIntsD, isIntsD_e, pairD_e])
      obtain ⟨p, hp⟩ : ∃ p, w.getLast? = some p := by
        cases e : w.getLast? with
        | none => exact absurd (List.getLast?_eq_none_iff.mp e) hw.ne
        | some p => exact ⟨p, rfl⟩
      refine ⟨p, hp, w, _, p.2, rfl, by have := cutG_len (L := ns) (a := none) (b := some 30); omega, ?_, ?_⟩
      · refine wave_at (k := w.length - 1) hw (by rw [List.getLast?_eq_getElem?] at hp; exact hp) (by omega) fun r hr => ?_
        rw [List.getElem?_eq_none (by omega)] at hr
        cases hr
      · simp only [startE, List.map_cons, List.map_nil, List.length_cons, List.length_nil, Nat.zero_add, Nat.reduceAdd, Nat.reduceSub, List.replicate_succ, List.replicate_zero, List.cons_append, List.nil_append, ↓mVar_e, ↓mAny_e, ↓mC_e, ↓mFlat_e, ↓mOp_e, ↓mII_e, ↓mIB_e, ↓mIIC_e, ↓mCatS_e, ↓mRepS_e, ↓mEq_e, ↓mNe_e, ↓mIsN_e, ↓mIn_e, ↓mInS_e, ↓mEqD_e, ↓mNeD_e, ↓mIxL_e, ↓mIxT_e, ↓mIxS_e, ↓mTab_e, ↓mDGet_e, ↓mDIn_e, ↓mDGet2_e, ↓mNil_e, ↓mCons_e, ↓mLst_e, ↓mTup_e, ↓mDNew_e, ↓mCatL_e, ↓mRepL_e, ↓mNoPart_e, ↓mPart_e, ↓mSlL_e, ↓mSlS_e, ↓mSlT_e, ↓mCatT_e, ↓mCB_e, ↓mLen_e, ↓mLenS_e, ↓mLenD_e, ↓mInt_e, ↓mBool_e, ↓mStrI_e, ↓mMM_e, ↓mMM3_e, ↓mI1_e, ↓mSum_e, ↓mMax_e, ↓mMin_e, ↓mAll_e, ↓mAnyB_e, ↓mListOf_e, ↓mTupOf_e, ↓mSorted_e, ↓mIsi_e, ↓mNeg_e, ↓mTest_e, ↓mAndT_e, ↓mOrT_e, ↓mNotT_e, ↓mYes_e, ↓mAndV_e, ↓mOrV_e, ↓mNotV_e, ↓mIfE_e, ↓mChain_e, ↓mTru_e, ↓mCall_e, ↓mGN_e, ↓mGNil_e, ↓mGCons_e, ↓mGT_e, ↓mItL_e, ↓mItT_e, ↓mRng1_e, ↓mRng2_e, ↓mItS_e, ↓mEnum_e, ↓mZip_e, ↓mLc_e, ↓mDc_e, ↓mNext_e, ↓mBrk_e, ↓mCnt_e, ↓mSeq_e, ↓mCut_e, ↓mIf_e, ↓mAsg_e, ↓mAsgF_e, ↓mAug_e, ↓mDrop_e, ↓mRet_e, ↓mRetO_e, ↓mApp_e, ↓mPop_e, ↓mPopD_e, ↓mPopAt_e, ↓mSetL_e, ↓mDPut_e, ↓mRev_e, ↓mExt_e, ↓mFrz_e, ↓mFor_e, ↓mWhile_e, ↓mFmt_e, ↓mFmtR_e, ↓mJoin_e, ↓mRaise_e, ↓mRaise0_e, frzE, mJs, itemsD, keyD, isTy, tyD, truD, Dat.flat, wipeE, List.set_cons_zero, List.set_cons_succ, List.getElem?_cons_zero, List.getElem?_cons_succ, Bool.not_true, Bool.not_false, if_true, if_false, ite_true, ite_false, Bool.false_eq_true, true_and, and_true, reduceIte, decide_eq_true_eq, decide_eq_false_iff_not, Bool.not_eq_true', Bool.or_eq_true, Bool.and_eq_true, intsD_len, intsD_cons, intsD_app, exists_eq_left', exists_eq_left, Option.some.injEq, List.all_cons, List.all_nil, List.any_cons, List.any_nil, Nat.zero_le, Int.toNat_natCast, rngD_len, if_max, if_min, Int.zero_add, ↓at_ints_e, ↓at_map_e, getI_nat, getI_0, getI_1, getI_2, getI_3, getI_4, getI_5, getI_6, getI_7, String.reduceBEq, atI_m1, atI_0, atI_1, atI_2, atI_3, atI_4, atI_5, atI_6, atI_7, atI_8, atI_9, eqF_int, eqF_str, Bool.or_false, Bool.or_eq_false_iff, Nat.reduceLeDiff, CMul, CPow, Int.reduceLT, Int.reduceLE, Int.reduceAdd, Int.reduceSub, Int.reduceMul, Int.reduceNeg, Int.reducePow, Int.reduceToNat, Int.reduceEq, Nat.reduceMul, Nat.reducePow, Nat.reduceLT, Nat.reduceEqDiff, or_true, true_or, ge_iff_le, gt_iff_lt, cdiv_of, natAbs_10, natAbs_2, List.getD_cons_zero, List.getD_cons_succ, putS, len_map, cutG_ints, cutG_map, atI_natL, ↓ps_law_parts, ↓ps_law_is_integer, ↓ps_law_cell_e, DrawD, isIntsD, isIntsD_e, pairD_e]
        refine ⟨p, hp, ?_⟩
        simp only [startE, List.map_cons, List.map_nil, List.length_cons, List.length_nil, Nat.zero_add, Nat.reduceAdd, Nat.reduceSub, List.replicate_succ, List.replicate_zero, List.cons_append, List.nil_append, ↓mVar_e, ↓mAny_e, ↓mC_e, ↓mFlat_e, ↓mOp_e, ↓mII_e, ↓mIB_e, ↓mIIC_e, ↓mCatS_e, ↓mRepS_e, ↓mEq_e, ↓mNe_e, ↓mIsN_e, ↓mIn_e, ↓mInS_e, ↓mEqD_e, ↓mNeD_e, ↓mIxL_e, ↓mIxT_e, ↓mIxS_e, ↓mTab_e, ↓mDGet_e, ↓mDIn_e, ↓mDGet2_e, ↓mNil_e, ↓mCons_e, ↓mLst_e, ↓mTup_e, ↓mDNew_e, ↓mCatL_e, ↓mRepL_e, ↓mNoPart_e, ↓mPart_e, ↓mSlL_e, ↓mSlS_e, ↓mSlT_e, ↓mCatT_e, ↓mCB_e, ↓mLen_e, ↓mLenS_e, ↓mLenD_e, ↓mInt_e, ↓mBool_e, ↓mStrI_e, ↓mMM_e, ↓mMM3_e, ↓mI1_e, ↓mSum_e, ↓mMax_e, ↓mMin_e, ↓mAll_e, ↓mAnyB_e, ↓mListOf_e, ↓mTupOf_e, ↓mSorted_e, ↓mIsi_e, ↓mNeg_e, ↓mTest_e, ↓mAndT_e, ↓mOrT_e, ↓mNotT_e, ↓mYes_e, ↓mAndV_e, ↓mOrV_e, ↓mNotV_e, ↓mIfE_e, ↓mChain_e, ↓mTru_e, ↓mCall_e, ↓mGN_e, ↓mGNil_e, ↓mGCons_e, ↓mGT_e, ↓mItL_e, ↓mItT_e, ↓mRng1_e, ↓mRng2_e, ↓mItS_e, ↓mEnum_e, ↓mZip_e, ↓mLc_e, ↓mDc_e, ↓mNext_e, ↓mBrk_e, ↓mCnt_e, ↓mSeq_e, ↓mCut_e, ↓mIf_e, ↓mAsg_e, ↓mAsgF_e, ↓mAug_e, ↓mDrop_e, ↓mRet_e, ↓mRetO_e, ↓mApp_e, ↓mPop_e, ↓mPopD_e, ↓mPopAt_e, ↓mSetL_e, ↓mDPut_e, ↓mRev_e, ↓mExt_e, ↓mFrz_e, ↓mFor_e, ↓mWhile_e, ↓mFmt_e, ↓mFmtR_e, ↓mJoin_e, ↓mRaise_e, ↓mRaise0_e, frzE, mJs, itemsD, keyD, isTy, tyD, truD, Dat.flat, wipeE, List.set_cons_zero, List.set_cons_succ, List.getElem?_cons_zero, List.getElem?_cons_succ, Bool.not_true, Bool.not_false, if_true, if_false, ite_true, ite_false, Bool.false_eq_true, true_and, and_true, reduceIte, decide_eq_true_eq, decide_eq_false_iff_not, Bool.not_eq_true', Bool.or_eq_true, Bool.and_eq_true, intsD_len, intsD_cons, intsD_app, exists_eq_left', exists_eq_left, Option.some.injEq, List.all_cons, List.all_nil, List.any_cons, List.any_nil, Nat.zero_le, Int.toNat_natCast, rngD_len, if_max, if_min, Int.zero_add, ↓at_ints_e, ↓at_map_e, getI_nat, getI_0, getI_1, getI_2, getI_3, getI_4, getI_5, getI_6, getI_7, String.reduceBEq, atI_m1, atI_0, atI_1, atI_2, atI_3, atI_4, atI_5, atI_6, atI_7, atI_8, atI_9, eqF_int, eqF_str, Bool.or_false, Bool.or_eq_false_iff, Nat.reduceLeDiff, CMul, CPow, Int.reduceLT, Int.reduceLE, Int.reduceAdd, Int.reduceSub, Int.reduceMul, Int.reduceNeg, Int.reducePow, Int.reduceToNat, Int.reduceEq, Nat.reduceMul, Nat.reducePow, Nat.reduceLT, Nat.reduceEqDiff, or_true, true_or, ge_iff_le, gt_iff_lt, cdiv_of, natAbs_10, natAbs_2, List.getD_cons_zero, List.getD_cons_succ, putS, len_map, cutG_ints, cutG_map, atI_natL, ↓ps_law_parts, ↓ps_law_is_integer, ↓ps_law_cell_e, DrawD, isIntsD, isIntsD_e, pairD_e]
        refine ⟨?_, ?_, ?_⟩
        · exact shape_list (fun x => ⟨rfl, by simp [pairD, Dat.dep, Dat.deps]⟩) w
        · exact shape_list (fun x => ⟨rfl, by simp [pairD, Dat.dep, Dat.deps]⟩) w
        · rw [sameD_self]
          exact q


end
theorem all_mk {l : PySem.W.OpenLaw} {w : World} {K : PySem.W.Frag} {h : Heap} {mg : Str → Option Value} {fa : Addr} (X : K.In h) (G : h.Ns mainGlobals mg) (hfa : mg "law" = some (.ref fa))
    {f_value_at : Addr} {od_value_at an_value_at : Option Addr} {sl_value_at : Array (Option Value)} {oc_value_at kV_value_at dc_value_at pm_value_at cd_value_at ct_value_at : Value}
    {f_law_cell : Addr} {od_law_cell an_law_cell : Option Addr} {sl_law_cell : Array (Option Value)} {oc_law_cell kV_law_cell dc_law_cell pm_law_cell cd_law_cell ct_law_cell : Value}
    {f_law_parts : Addr} {od_law_parts an_law_parts : Option Addr} {sl_law_parts : Array (Option Value)} {oc_law_parts kV_law_parts dc_law_parts pm_law_parts cd_law_parts ct_law_parts : Value}
    {f_law_is_integer : Addr} {od_law_is_integer an_law_is_integer : Option Addr} {sl_law_is_integer : Array (Option Value)} {oc_law_is_integer kV_law_is_integer dc_law_is_integer pm_law_is_integer cd_law_is_integer ct_law_is_integer : Value}
    {f_law : Addr} {od_law an_law : Option Addr} {sl_law : Array (Option Value)} {oc_law kV_law dc_law pm_law cd_law ct_law : Value}
    (a_value_at : PySem.W.nsIn K mainGlobals "value_at" = some (some (.ref f_value_at)))
    (l_value_at : K.lookup f_value_at = some ⟨oc_value_at, od_value_at, .func (PySem.W.fnOf "value_at" "value_at" (defArgs s_value_at) (defBody s_value_at) (defScope s_value_at) .none kV_value_at dc_value_at pm_value_at an_value_at cd_value_at ct_value_at), sl_value_at⟩)
    (c_value_at : PySem.W.codeIn K cd_value_at "value_at" = true)
    (k_value_at : PySem.W.keepIn K (.ref f_value_at) = true)
    (a_law_cell : PySem.W.nsIn K mainGlobals "_law_cell" = some (some (.ref f_law_cell)))
    (l_law_cell : K.lookup f_law_cell = some ⟨oc_law_cell, od_law_cell, .func (PySem.W.fnOf "_law_cell" "_law_cell" (defArgs s_law_cell) (defBody s_law_cell) (defScope s_law_cell) .none kV_law_cell dc_law_cell pm_law_cell an_law_cell cd_law_cell ct_law_cell), sl_law_cell⟩)
    (c_law_cell : PySem.W.codeIn K cd_law_cell "_law_cell" = true)
    (k_law_cell : PySem.W.keepIn K (.ref f_law_cell) = true)
    (a_law_parts : PySem.W.nsIn K mainGlobals "_law_parts" = some (some (.ref f_law_parts)))
    (l_law_parts : K.lookup f_law_parts = some ⟨oc_law_parts, od_law_parts, .func (PySem.W.fnOf "_law_parts" "_law_parts" (defArgs s_law_parts) (defBody s_law_parts) (defScope s_law_parts) .none kV_law_parts dc_law_parts pm_law_parts an_law_parts cd_law_parts ct_law_parts), sl_law_parts⟩)
    (c_law_parts : PySem.W.codeIn K cd_law_parts "_law_parts" = true)
    (k_law_parts : PySem.W.keepIn K (.ref f_law_parts) = true)
    (a_law_is_integer : PySem.W.nsIn K mainGlobals "_law_is_integer" = some (some (.ref f_law_is_integer)))
    (l_law_is_integer : K.lookup f_law_is_integer = some ⟨oc_law_is_integer, od_law_is_integer, .func (PySem.W.fnOf "_law_is_integer" "_law_is_integer" (defArgs s_law_is_integer) (defBody s_law_is_integer) (defScope s_law_is_integer) .none kV_law_is_integer dc_law_is_integer pm_law_is_integer an_law_is_integer cd_law_is_integer ct_law_is_integer), sl_law_is_integer⟩)
    (c_law_is_integer : PySem.W.codeIn K cd_law_is_integer "_law_is_integer" = true)
    (k_law_is_integer : PySem.W.keepIn K (.ref f_law_is_integer) = true)
    (a_law : PySem.W.nsIn K mainGlobals "law" = some (some (.ref f_law)))
    (l_law : K.lookup f_law = some ⟨oc_law, od_law, .func (PySem.W.fnOf "law" "law" (defArgs s_law) (defBody s_law) (defScope s_law) .none kV_law dc_law pm_law an_law cd_law ct_law), sl_law⟩)
    (c_law : PySem.W.codeIn K cd_law "law" = true)
    (k_law : PySem.W.keepIn K (.ref f_law) = true)
    (z_bool : PySem.W.nsIn K mainGlobals "bool" = some none)
    (z_int : PySem.W.nsIn K mainGlobals "int" = some none)
    (z_isinstance : PySem.W.nsIn K mainGlobals "isinstance" = some none)
    (z_len : PySem.W.nsIn K mainGlobals "len" = some none)
    (z_list : PySem.W.nsIn K mainGlobals "list" = some none)
    (z_range : PySem.W.nsIn K mainGlobals "range" = some none)
    : ∃ fd : FuncData, (∀ (s : Shared) (v : Value), BindsTo s fd ⟨[v], []⟩ [("script", v)]) ∧ ∀ base : Heap, K.In base → base.Ns mainGlobals mg → FnOk l.prog w K mg base CX0 2 fa fd ["script"] (spLaw K) := by
  have e := hfa.symm.trans (PySem.W.mg_of X G a_law)
  cases e
  have F_value_at := fun_mk (st := s_value_at) l_value_at c_value_at k_value_at
  have b_value_at := F_value_at.binds (ps := ["wave", "time"]) fun _ _ _ _ _ _ us hl => match us, hl with | [_, _], _ => rfl
  have F_law_cell := fun_mk (st := s_law_cell) l_law_cell c_law_cell k_law_cell
  have b_law_cell := F_law_cell.binds (ps := ["script", "k"]) fun _ _ _ _ _ _ us hl => match us, hl with | [_, _], _ => rfl
  have F_law_parts := fun_mk (st := s_law_parts) l_law_parts c_law_parts k_law_parts
  have b_law_parts := F_law_parts.binds (ps := ["cell", "sizes"]) fun _ _ _ _ _ _ us hl => match us, hl with | [_, _], _ => rfl
  have F_law_is_integer := fun_mk (st := s_law_is_integer) l_law_is_integer c_law_is_integer k_law_is_integer
  have b_law_is_integer := F_law_is_integer.binds (ps := ["actual"]) fun _ _ _ _ _ _ us hl => match us, hl with | [_], _ => rfl
  have F_law := fun_mk (st := s_law) l_law c_law k_law
  have b_law := F_law.binds (ps := ["script"]) fun _ _ _ _ _ _ us hl => match us, hl with | [_], _ => rfl
  let a : A := { f_value_at := f_value_at, d_value_at := PySem.W.fnOf "value_at" "value_at" (defArgs s_value_at) (defBody s_value_at) (defScope s_value_at) .none kV_value_at dc_value_at pm_value_at an_value_at cd_value_at ct_value_at, f_law_cell := f_law_cell, d_law_cell := PySem.W.fnOf "_law_cell" "_law_cell" (defArgs s_law_cell) (defBody s_law_cell) (defScope s_law_cell) .none kV_law_cell dc_law_cell pm_law_cell an_law_cell cd_law_cell ct_law_cell, f_law_parts := f_law_parts, d_law_parts := PySem.W.fnOf "_law_parts" "_law_parts" (defArgs s_law_parts) (defBody s_law_parts) (defScope s_law_parts) .none kV_law_parts dc_law_parts pm_law_parts an_law_parts cd_law_parts ct_law_parts, f_law_is_integer := f_law_is_integer, d_law_is_integer := PySem.W.fnOf "_law_is_integer" "_law_is_integer" (defArgs s_law_is_integer) (defBody s_law_is_integer) (defScope s_law_is_integer) .none kV_law_is_integer dc_law_is_integer pm_law_is_integer an_law_is_integer cd_law_is_integer ct_law_is_integer, f_law := fa, d_law := PySem.W.fnOf "law" "law" (defArgs s_law) (defBody s_law) (defScope s_law) .none kV_law dc_law pm_law an_law cd_law ct_law }
  have T : Top K mg w a := { F_value_at := F_value_at, b_value_at := b_value_at, g_value_at := PySem.W.mg_of X G a_value_at, F_law_cell := F_law_cell, b_law_cell := b_law_cell, g_law_cell := PySem.W.mg_of X G a_law_cell, F_law_parts := F_law_parts, b_law_parts := b_law_parts, g_law_parts := PySem.W.mg_of X G a_law_parts, F_law_is_integer := F_law_is_integer, b_law_is_integer := b_law_is_integer, g_law_is_integer := PySem.W.mg_of X G a_law_is_integer, F_law := F_law, b_law := b_law, g_law := PySem.W.mg_of X G a_law, z_bool := PySem.W.mg_none_of X G z_bool, z_int := PySem.W.mg_none_of X G z_int, z_isinstance := PySem.W.mg_none_of X G z_isinstance, z_len := PySem.W.mg_none_of X G z_len, z_list := PySem.W.mg_none_of X G z_list, z_range := PySem.W.mg_none_of X G z_range }
  exact ⟨_, fun s v => .of_eq rfl, fun base _ _ => ok_law T⟩
theorem walk {l : PySem.W.OpenLaw} {q : Program} {loose : List Str} {XP : (Str → Option Value) → Heap → Prop} {YP : World → Heap → Prop} {d : DefRec} {K : Params → PySem.W.Frag} (hn : l.most = some 63) (hdf : d.params.defaults = [])
    (hY : ∀ (w : World) (h : Heap), YP w h → (K w.params).In h)
    (F : ∀ (w : World) (mg : Str → Option Value) (fa : Addr) (h : Heap), (K w.params).In h → h.Ns mainGlobals mg → mg d.name = some (.ref fa) →
      ∃ fd : FuncData, (∀ (s : Shared) (u : Value), BindsTo s fd ⟨[u], []⟩ [("script", u)]) ∧ ∀ base : Heap, (K w.params).In base → base.Ns mainGlobals mg → FnOk l.prog w (K w.params) mg base CX0 2 fa fd ["script"] (spLaw (K w.params))) :
    PySem.W.WalkO q loose XP YP l.row.toRowW d [] (fun f vs => PySem.call f vs) :=
  L2.walk_of (n := 63) (k := 2) (x := "script") (CX := fun _ => CX0) (sp := fun w => spLaw (K w.params)) hn (by decide) hdf ⟨rfl, by decide, by decide⟩ hY F (fun _ _ a ns hl _ hS => ⟨a, ns, rfl, hS, hl, fun _ => rfl⟩) fun _ _ _ _ _ z => z
end GR

open PySem PySem.W PyProof.Rows in
set_option maxRecDepth 100000 in
set_option maxHeartbeats 0 in
theorem PySem.Challenge.cw_gatesread_k85_value_at_holds : PySem.Challenge.rw_gatesread_k85_value_at.Holds := by
  w_on; o_law; k_head; (case hw => w_witness2)
  k_fill
  refine GR.walk (l := PySem.Challenge.rw_gatesread_k85_value_at) rfl rfl (fun w h Y => PySem.W.kIn_of Y) ?F
  case F =>
    intro w mg fa h KX G hmg
    refine' GR.all_mk KX G hmg ?a_value_at ?l_value_at ?c_value_at ?k_value_at ?a_law_cell ?l_law_cell ?c_law_cell ?k_law_cell ?a_law_parts ?l_law_parts ?c_law_parts ?k_law_parts ?a_law_is_integer ?l_law_is_integer ?c_law_is_integer ?k_law_is_integer ?a_law ?l_law ?c_law ?k_law ?z_bool ?z_int ?z_isinstance ?z_len ?z_list ?z_range
    (case a_value_at => k_is)
    (case l_value_at => k_is)
    (case c_value_at => k_is)
    (case k_value_at => k_is)
    (case a_law_cell => k_is)
    (case l_law_cell => k_is)
    (case c_law_cell => k_is)
    (case k_law_cell => k_is)
    (case a_law_parts => k_is)
    (case l_law_parts => k_is)
    (case c_law_parts => k_is)
    (case k_law_parts => k_is)
    (case a_law_is_integer => k_is)
    (case l_law_is_integer => k_is)
    (case c_law_is_integer => k_is)
    (case k_law_is_integer => k_is)
    (case a_law => k_is)
    (case l_law => k_is)
    (case c_law => k_is)
    (case k_law => k_is)
    (case z_bool => k_is)
    (case z_int => k_is)
    (case z_isinstance => k_is)
    (case z_len => k_is)
    (case z_list => k_is)
    (case z_range => k_is)
