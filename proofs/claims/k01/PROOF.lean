import PyProof.Rows.All
import Wide.All
import OpenK.AllK
import Wide.FinOn
import HandS.ForMost
import HandS.Evl
import HandS.Steps
import HandS.IsInst
import HandS.Wide
import HandS.Deep
import HandS.More
import HandS.Exc
import HandS.ExcOwn
import HandS.WordsExc
import HandS.TryOnly
import HandS.RaiseMore
import HandS.FStr
import HandS.Conv
import PySem.Challenge.RW_gatesread_k01_split_tokens
set_option Elab.async false
set_option linter.all false
set_option maxRecDepth 100000
set_option maxHeartbeats 4000000

namespace GR
open PySem PySem.Spec PyProof.Rows L2 Evl

/-! ### the known heap G: all that is known stands at G, the heap at hand extends it -/
theorem ex_upd {G H : Hp} (e : Ex G H) (l : Addr) (o : HO) : Ex (upd G l o) (upd H l o) := fun a u h => by
  by_cases q : a = l
  · subst q
    rw [upd_same] at h ⊢
    exact h
  · rw [upd_ne q] at h ⊢
    exact e a u h
theorem ex_to {G H : Hp} {p : Addr} {o : HO} (e : Ex G H) (h : H p = some o) : Ex (upd G p o) H := fun a u g => by
  by_cases q : a = p
  · subst q
    rw [upd_same] at g
    rw [h]
    exact g
  · rw [upd_ne q] at g
    exact e a u g
section
variable {K : PySem.W.Frag} {σ : L2.St} {G H H' : Hp} {ta tb te tx : TE} {t u : TT} {x y z v : V} {D : Ends} {tu tw tz : TS} {g : TG}
/-- x = e, the rest -/
theorem a_set {i : Nat} (e : Ex G H) (h : Ev te σ G v) (k : ∀ H1, Ex G H1 → tz D (σ.set i (some v)) H1) : tSeq (tAsg te (gName i)) tz D σ H :=
  h H e _ fun H1 e1 => k H1 (e.trans e1)
theorem a_setL {i : Nat} {xs : List V} (e : Ex G H) (h : EvL te σ G xs) (k : ∀ p H1, G p = none → Ex (upd G p (.lst xs)) H1 → tz D (σ.set i (some (.ref p))) H1) : tSeq (tAsg te (gName i)) tz D σ H :=
  h H e _ fun p H1 hp e1 h1 => k p H1 (fresh_back e hp) (ex_to (e.trans e1) h1)
theorem a_setU {i : Nat} {xs : List V} (e : Ex G H) (h : EvU te σ G xs) (k : ∀ p H1, G p = none → Ex (upd G p (.tup xs)) H1 → tz D (σ.set i (some (.ref p))) H1) : tSeq (tAsg te (gName i)) tz D σ H :=
  h H e _ fun p H1 hp e1 h1 => k p H1 (fresh_back e hp) (ex_to (e.trans e1) h1)
/-- if -/
theorem a_if {b : Bool} (e : Ex G H) (h : EvT t σ G b) (h1 : b = true → ∀ H1, Ex G H1 → tu D σ H1) (h2 : b = false → ∀ H1, Ex G H1 → tw D σ H1) : tIfS t tu tw D σ H :=
  h H e _ fun H1 e1 => by
    cases b with
    | true => exact h1 rfl H1 (e.trans e1)
    | false => exact h2 rfl H1 (e.trans e1)
theorem a_ifq {b : Bool} (e : Ex G H) (h : EvT t σ G b) (h1 : b = true → ∀ H1, Ex G H1 → tu { D with nx := tz D } σ H1) (h2 : b = false → ∀ H1, Ex G H1 → tw { D with nx := tz D } σ H1) : tSeq (tIfS t tu tw) tz D σ H :=
  a_if (D := { D with nx := tz D }) e h h1 h2
/-- an if without else -/
theorem a_when {b : Bool} (e : Ex G H) (h : EvT t σ G b) (h1 : b = true → ∀ H1, Ex G H1 → tu { D with nx := tz D } σ H1) (h2 : b = false → ∀ H1, Ex G H1 → tz D σ H1) : tSeq (tIfS t tu tNext) tz D σ H :=
  a_if (D := { D with nx := tz D }) e h h1 h2
theorem a_when1 {b : Bool} (e : Ex G H) (h : EvT t σ G b) (h1 : b = true → ∀ H1, Ex G H1 → tu D σ H1) (h2 : b = false → ∀ H1, Ex G H1 → D.nx σ H1) : tIfS t tu tNext D σ H :=
  a_if e h h1 h2
theorem a_ret (e : Ex G H) (h : Ev te σ G v) (k : ∀ H1, Ex G H1 → D.rt v H1) : tRet te D σ H := h H e _ fun H1 e1 => k H1 (e.trans e1)
theorem a_retL {xs : List V} (e : Ex G H) (h : EvL te σ G xs) (k : ∀ p H1, G p = none → Ex G H1 → H1 p = some (.lst xs) → D.rt (.ref p) H1) : tRet te D σ H :=
  h H e _ fun p H1 hp e1 h1 => k p H1 (fresh_back e hp) (e.trans e1) h1
theorem a_retU {xs : List V} (e : Ex G H) (h : EvU te σ G xs) (k : ∀ p H1, G p = none → Ex G H1 → H1 p = some (.tup xs) → D.rt (.ref p) H1) : tRet te D σ H :=
  h H e _ fun p H1 hp e1 h1 => k p H1 (fresh_back e hp) (e.trans e1) h1
/-- xs.append(e), the rest -/
theorem a_app {l : Addr} {xs : List V} (e : Ex G H) (ha : Ev ta σ G (.ref l)) (hl : G l = some (.lst xs)) (h : Ev te σ G v) (hz : xs.length < 100000) (k : ∀ H1, Ex (upd G l (.lst (xs ++ [v]))) H1 → tz D σ H1) :
    tSeq (tDrop (tBM K "list" rAppend ta (tCons te tNil))) tz D σ H :=
  ha H e _ fun H1 e1 => ⟨Or.inl ⟨rfl, xs, sq_of (e1 l _ (e l _ hl))⟩, h H1 (e.trans e1) _ fun H2 e2 => ⟨l, xs, v, rfl, rfl, e2 l _ (e1 l _ (e l _ hl)), sz_lt hz, k _ (ex_upd ((e.trans e1).trans e2) l _)⟩⟩
theorem a_app1 {l : Addr} {xs : List V} (e : Ex G H) (ha : Ev ta σ G (.ref l)) (hl : G l = some (.lst xs)) (h : Ev te σ G v) (hz : xs.length < 100000) (k : ∀ H1, Ex (upd G l (.lst (xs ++ [v]))) H1 → D.nx σ H1) :
    tDrop (tBM K "list" rAppend ta (tCons te tNil)) D σ H :=
  ha H e _ fun H1 e1 => ⟨Or.inl ⟨rfl, xs, sq_of (e1 l _ (e l _ hl))⟩, h H1 (e.trans e1) _ fun H2 e2 => ⟨l, xs, v, rfl, rfl, e2 l _ (e1 l _ (e l _ hl)), sz_lt hz, k _ (ex_upd ((e.trans e1).trans e2) l _)⟩⟩
theorem a_set1 {i : Nat} (e : Ex G H) (h : Ev te σ G v) (k : ∀ H1, Ex G H1 → D.nx (σ.set i (some v)) H1) : tAsg te (gName i) D σ H :=
  h H e _ fun H1 e1 => k H1 (e.trans e1)
/-- for i in range(n) -/
theorem a_forR {ta : TA} {j : Nat} {n : Int} (e : Ex G H) (h : EvA ta σ G [.int n]) (hn : 0 ≤ n ∧ n ≤ 100000) (Pv : Nat → L2.St → Hp → Prop) (h0 : ∀ H1, Ex G H1 → Pv 0 σ H1)
    (hs : ∀ (i : Nat) σ' H', (i : Int) < n → Pv i σ' H' → tu { D with nx := Pv (i + 1), ct := Pv (i + 1), bk := tz D } (σ'.set j (some (.int (i : Int)))) H') (hd : ∀ σ' H', Pv n.toNat σ' H' → tz D σ' H') : tSeq (tFor (iRng1 ta) (gName j) tu) tz D σ H :=
  s_forR1 (D := { D with nx := tz D }) (fun H1 e1 => h H1 (e.trans e1)) hn Pv (fun H1 e1 => h0 H1 (e.trans e1)) hs hd
end
end GR
namespace GR
open PySem PySem.Spec PyProof.Rows L2 Evl
section
variable {K : PySem.W.Frag} {σ : L2.St} {G H H' : Hp} {ta tb te tx : TE} {t u : TT} {x y z v : V} {D : Ends} {tu tw tz : TS} {g : TG}
/-- int(n) -/
theorem ev_int1 {i : Int} (h : Ev ta σ G (.int i)) : Ev (tCB (fun xs H Q => (∃ i, xs = [V.int i] ∧ Q (.int i) H) ∨ ∃ k, xs = [V.bl k] ∧ Q (.int (if k then 1 else 0)) H) (tCons ta tNil)) σ G (.int i) := fun H1 e Q q =>
  h H1 e _ fun H2 e2 => Or.inl ⟨i, rfl, q H2 e2⟩
theorem ev_int1b {b : Bool} (h : Ev ta σ G (.bl b)) : Ev (tCB (fun xs H Q => (∃ i, xs = [V.int i] ∧ Q (.int i) H) ∨ ∃ k, xs = [V.bl k] ∧ Q (.int (if k then 1 else 0)) H) (tCons ta tNil)) σ G (.int (if b then 1 else 0)) := fun H1 e Q q =>
  h H1 e _ fun H2 e2 => Or.inr ⟨b, rfl, q H2 e2⟩
theorem ev_lenS {p : Addr} {xs : List V} (ha : Ev ta σ G (.ref p)) (h : SqL K G p xs) : Ev (tCB (fun xs H Q => ∃ p ys, xs = [V.ref p] ∧ (SqL K H p ys ∨ SqT K H p ys) ∧ Q (.int ys.length) H) (tCons ta tNil)) σ G (.int (xs.length : Int)) := fun H1 e Q q =>
  ha H1 e _ fun H2 e2 => ⟨p, xs, rfl, Or.inl (ex_l (e.trans e2) h), q H2 e2⟩
theorem ev_lenT {p : Addr} {xs : List V} (ha : Ev ta σ G (.ref p)) (h : SqT K G p xs) : Ev (tCB (fun xs H Q => ∃ p ys, xs = [V.ref p] ∧ (SqL K H p ys ∨ SqT K H p ys) ∧ Q (.int ys.length) H) (tCons ta tNil)) σ G (.int (xs.length : Int)) := fun H1 e Q q =>
  ha H1 e _ fun H2 e2 => ⟨p, xs, rfl, Or.inr (ex_t (e.trans e2) h), q H2 e2⟩
theorem hu64 {A : Around} {k : Nat} (hr : Room k A) : A.units + 64 < cLine := hr.units
theorem pe_const {X : Cx} {x : Str} {v : V} {pos : Pos} (hg : Gl X x) (h : ∃ u, X.mg x = some u ∧ RelV v u) (hd : (x == ("__debug__" : Str)) = false := by decide) : PE X (.Name x pos) (tC v) := by
  obtain ⟨u, hm, r⟩ := h
  exact pe_glob hg hm r hd
end
/-- drawn numbers -/
structure Draw (ns sizes : List Int) : Prop where
  len : ns.length = sizes.length
  at_ : ∀ k, k < sizes.length → 0 ≤ ns.getD k 0 ∧ ns.getD k 0 < sizes.getD k 0
/-- the k-th cell of the script -/
def cellOf (ns : List Int) (k : Nat) : Int := ns.getD k 0
theorem at_map {ns : List Int} {k : Nat} (h : k < ns.length) : atI (ns.map V.int) (k : Int) = some (.int (ns.getD k 0)) := by
  have e : (ns.map V.int)[k]? = some (.int (ns.getD k 0)) := by
    rw [List.getElem?_map, List.getElem?_eq_getElem h, List.getD_eq_getElem?_getD, List.getElem?_eq_getElem h]
    rfl
  exact atI_nat e
end GR
namespace GR
open PySem PySem.Spec PyProof.Rows L2 Evl
section
variable {K : PySem.W.Frag} {σ : L2.St} {G H H' : Hp} {ta tb tc te tx : TE} {t u : TT} {x y z v : V} {D : Ends} {tu tw tz : TS} {g : TG}
/-- isinstance(x, T) -/
theorem ev_isi {c : V} {ty un : Value} {b : Bool} (h : Ev ta σ G x) (hc : Ev tb σ G c) (cv : ClsV c un) (hk : PySem.W.kitOne K ty un = some b) (ht : ∀ H1, Ex G H1 → TyX K H1 x ty) : Ev (tCB (rIsi K) (tCons ta (tCons tb tNil))) σ G (.bl b) := fun H1 e Q q =>
  h H1 e _ fun H2 e2 => hc H2 (e.trans e2) _ fun H3 e3 => ⟨x, c, ty, un, b, rfl, cv, ht H3 ((e.trans e2).trans e3), hk, q H3 (e2.trans e3)⟩
theorem ev_isiInt {i : Int} (h : Ev ta σ G (.int i)) : Ev (tCB (rIsi K) (tCons ta (tCons (tC (.ty "int")) tNil))) σ G (.bl true) := ev_isi h ev_c (.ty _) (kit_ty (by decide +kernel)) fun _ _ => .base (.int i)
theorem ev_isiIntB {i : Int} (h : Ev ta σ G (.int i)) : Ev (tCB (rIsi K) (tCons ta (tCons (tC (.ty "bool")) tNil))) σ G (.bl false) := ev_isi h ev_c (.ty _) (kit_ty (by decide +kernel)) fun _ _ => .base (.int i)
theorem ev_isiBl {i : Bool} (h : Ev ta σ G (.bl i)) : Ev (tCB (rIsi K) (tCons ta (tCons (tC (.ty "bool")) tNil))) σ G (.bl true) := ev_isi h ev_c (.ty _) (kit_ty (by decide +kernel)) fun _ _ => .base (.bl i)
theorem ev_isiStr {i : Str} (h : Ev ta σ G (.str i)) : Ev (tCB (rIsi K) (tCons ta (tCons (tC (.ty "str")) tNil))) σ G (.bl true) := ev_isi h ev_c (.ty _) (kit_ty (by decide +kernel)) fun _ _ => .base (.str i)
theorem ev_isiLst {p : Addr} {xs : List V} (h : Ev ta σ G (.ref p)) (hl : G p = some (.lst xs)) : Ev (tCB (rIsi K) (tCons ta (tCons (tC (.ty "list")) tNil))) σ G (.bl true) := ev_isi h ev_c (.ty _) (kit_ty (by decide +kernel)) fun _ e => .base (.lst (e _ _ hl))
theorem ev_isiTup {p : Addr} {xs : List V} (h : Ev ta σ G (.ref p)) (hl : G p = some (.tup xs)) : Ev (tCB (rIsi K) (tCons ta (tCons (tC (.ty "tuple")) tNil))) σ G (.bl true) := ev_isi h ev_c (.ty _) (kit_ty (by decide +kernel)) fun _ e => .base (.tup (e _ _ hl))
theorem tyx_tup {p : Addr} {xs : List V} (h : SqT K G p xs) : ∀ H1, Ex G H1 → TyX K H1 (.ref p) (.type "tuple") := fun H1 e => by
  rcases h with (h | ⟨o, h⟩) | ⟨o, its, n, h1, h2, _⟩
  · exact .base (.tup (e _ _ h))
  · exact .fTuple (e _ _ h)
  · exact .kTuple h1 h2
theorem ev_isiTupS {p : Addr} {xs : List V} (h : Ev ta σ G (.ref p)) (hl : SqT K G p xs) : Ev (tCB (rIsi K) (tCons ta (tCons (tC (.ty "tuple")) tNil))) σ G (.bl true) := ev_isi h ev_c (.ty _) (kit_ty (by decide +kernel)) (tyx_tup hl)
/-- sum, max, min of a list of ints -/
theorem ev_sum {p : Addr} {ns : List Int} (h : Ev ta σ G (.ref p)) (hs : SqL K G p (ns.map V.int)) : Ev (tCB (rSum K) (tCons ta tNil)) σ G (.int ns.sum) := fun H1 e Q q =>
  h H1 e _ fun H2 e2 => ⟨p, ns, rfl, ex_l (e.trans e2) hs, q H2 e2⟩
theorem ev_max {p : Addr} {ns : List Int} {m : Int} (h : Ev ta σ G (.ref p)) (hs : SqL K G p (ns.map V.int)) (hm : m ∈ ns) (hx : ∀ y, y ∈ ns → y ≤ m) : Ev (tCB (rMax K) (tCons ta tNil)) σ G (.int m) := fun H1 e Q q =>
  h H1 e _ fun H2 e2 => ⟨p, ns, rfl, ex_l (e.trans e2) hs, List.length_pos_of_mem hm, fun m' h1 h2 => by
    have e3 : m' = m := Int.le_antisymm (hx _ h1) (h2 _ hm)
    rw [e3]
    exact q H2 e2⟩
theorem ev_min {p : Addr} {ns : List Int} {m : Int} (h : Ev ta σ G (.ref p)) (hs : SqL K G p (ns.map V.int)) (hm : m ∈ ns) (hx : ∀ y, y ∈ ns → m ≤ y) : Ev (tCB (rMin K) (tCons ta tNil)) σ G (.int m) := fun H1 e Q q =>
  h H1 e _ fun H2 e2 => ⟨p, ns, rfl, ex_l (e.trans e2) hs, List.length_pos_of_mem hm, fun m' h1 h2 => by
    have e3 : m' = m := Int.le_antisymm (h2 _ hm) (hx _ h1)
    rw [e3]
    exact q H2 e2⟩
/-- a slice of a text -/
theorem ev_slS {tl th : TO} {w : Str} {lo hi : Option Int} (h : Ev te σ G (.str w)) (h1 : EvO tl σ G lo) (h2 : EvO th σ G hi) (hz : w.length ≤ 100000) : Ev (tSl rSlS te tl th) σ G (.str (cutS w lo hi)) := fun H1 e Q q =>
  h H1 e _ fun H2 e2 => h1 H2 (e.trans e2) _ fun H3 e3 => h2 H3 ((e.trans e2).trans e3) _ fun H4 e4 => ⟨w, rfl, sz_of hz, q H4 ((e2.trans e3).trans e4)⟩
/-- d[k], d a dict of the module -/
theorem rv_kd {w : World} {p : Addr} {k : Str} (h : KDct K w p k v) : RV (rIxD K w) (.ref p) (.str k) G v := fun H1 _ _ q => ⟨p, k, v, rfl, rfl, h, q H1 (Ex.refl H1)⟩
/-- == of data -/
theorem dp_mono {G H : Hp} (e : Ex G H) : ∀ {v : V} {d : PyData}, Dp K G v d → Dp K H v d := by
  intro v d h
  refine Dp.rec (motive_1 := fun v d _ => Dp K H v d) (motive_2 := fun vs ds _ => DpAll K H vs ds) .non .bl .int .str (fun h _ ih => .lst (ex_l e h) ih) (fun h _ ih => .tup (ex_t e h) ih) .nil (fun _ _ a b => .cons a b) h
theorem rv_eqD {d1 d2 : PyData} (h1 : Dp K G x d1) (h2 : Dp K G y d2) (s1 : SeqAt.shaped d1 = true) (s2 : SeqAt.shaped d2 = true) : RV (rEqD K) x y G (.bl (PyData.eqv d1 d2)) := fun H1 e _ q => ⟨d1, d2, dp_mono e h1, dp_mono e h2, s1, s2, q H1 (Ex.refl H1)⟩
theorem rv_neD {d1 d2 : PyData} (h1 : Dp K G x d1) (h2 : Dp K G y d2) (s1 : SeqAt.shaped d1 = true) (s2 : SeqAt.shaped d2 = true) : RV (rNeD K) x y G (.bl (!PyData.eqv d1 d2)) := fun H1 e _ q => ⟨d1, d2, dp_mono e h1, dp_mono e h2, s1, s2, q H1 (Ex.refl H1)⟩
theorem dpAll_ints (ns : List Int) : DpAll K G (ns.map V.int) (ns.map PyData.int) := by
  induction ns with
  | nil => exact .nil
  | cons n r ih => exact .cons (.int n) ih
theorem dp_ints {p : Addr} {ns : List Int} (h : SqL K G p (ns.map V.int)) : Dp K G (.ref p) (.list (ns.map PyData.int)) := .lst h (dpAll_ints ns)
theorem canLay_ints (ns : List Int) : PyData.canLayAll0 (ns.map PyData.int) = true := by
  induction ns with
  | nil => first | rfl | simp [PyData.canLayAll0]
  | cons n r ih => simp [PyData.canLayAll0, PyData.canLay0, ih]
theorem depth_ints (ns : List Int) : PyData.depthAll (ns.map PyData.int) ≤ 1 := by
  induction ns with
  | nil => simp [PyData.depthAll]
  | cons n r ih => simp [PyData.depthAll, PyData.depth]; omega
theorem shaped_ints (ns : List Int) : SeqAt.shaped (.list (ns.map PyData.int)) = true := by
  have h := depth_ints ns
  simp [SeqAt.shaped, PyData.canLay0, PyData.depth, canLay_ints]
  omega
theorem eqv_ints : ∀ ns ms : List Int, PyData.eqvAll (ns.map PyData.int) (ms.map PyData.int) = decide (ns = ms)
  | [], [] => by simp [PyData.eqvAll]
  | [], _ :: _ => by simp [PyData.eqvAll]
  | _ :: _, [] => by simp [PyData.eqvAll]
  | n :: r, m :: s => by
    simp [PyData.eqvAll, PyData.eqv, eqv_ints r s]
    by_cases h : n = m <;> simp [h]
theorem eqvL_ints (ns ms : List Int) : PyData.eqv (.list (ns.map PyData.int)) (.list (ms.map PyData.int)) = decide (ns = ms) := by
  rw [PyData.eqv, eqv_ints]
theorem rv_eqInts {p q : Addr} {ns ms : List Int} (h1 : SqL K G p (ns.map V.int)) (h2 : SqL K G q (ms.map V.int)) : RV (rEqD K) (.ref p) (.ref q) G (.bl (decide (ns = ms))) := by
  rw [← eqvL_ints]
  exact rv_eqD (dp_ints h1) (dp_ints h2) (shaped_ints ns) (shaped_ints ms)
theorem rv_neInts {p q : Addr} {ns ms : List Int} (h1 : SqL K G p (ns.map V.int)) (h2 : SqL K G q (ms.map V.int)) : RV (rNeD K) (.ref p) (.ref q) G (.bl (!decide (ns = ms))) := by
  rw [← eqvL_ints]
  exact rv_neD (dp_ints h1) (dp_ints h2) (shaped_ints ns) (shaped_ints ms)
/-- list(xs) of a list -/
theorem el_listL {p : Addr} {xs : List V} (ha : Ev ta σ G (.ref p)) (h : SqL K G p xs) : EvL (tCB (fun xs H Q => ∃ p ys, xs = [V.ref p] ∧ (SqL K H p ys ∨ SqT K H p ys) ∧ ∀ l, H l = none → Q (.ref l) (upd H l (.lst ys))) (tCons ta tNil)) σ G xs := fun H1 e Q q =>
  ha H1 e _ fun H2 e2 => ⟨p, xs, rfl, Or.inl (ex_l (e.trans e2) h), fun l hl => q l _ (fresh_back e2 hl) (e2.trans (Ex.new hl)) upd_same⟩
theorem el_listT {p : Addr} {xs : List V} (ha : Ev ta σ G (.ref p)) (h : SqT K G p xs) : EvL (tCB (fun xs H Q => ∃ p ys, xs = [V.ref p] ∧ (SqL K H p ys ∨ SqT K H p ys) ∧ ∀ l, H l = none → Q (.ref l) (upd H l (.lst ys))) (tCons ta tNil)) σ G xs := fun H1 e Q q =>
  ha H1 e _ fun H2 e2 => ⟨p, xs, rfl, Or.inr (ex_t (e.trans e2) h), fun l hl => q l _ (fresh_back e2 hl) (e2.trans (Ex.new hl)) upd_same⟩
/-- int(text) -/
theorem ev_intS {a : Str} {n : Int} (h : Ev ta σ G (.str a)) (h1 : PySem.intText? a = some n) (h2 : a.length ≤ 640) : Ev (tCB (fun xs H Q => ∃ a n, xs = [V.str a] ∧ PySem.intText? a = some n ∧ a.length ≤ 640 ∧ Q (.int n) H) (tCons ta tNil)) σ G (.int n) := fun H1 e Q q =>
  h H1 e _ fun H2 e2 => ⟨a, n, rfl, h1, h2, q H2 e2⟩
/-- calls -/
theorem ev_call1 {sp : Sp} {vs : List V} {E : XK} {ta : TA} (h : EvA ta σ G vs) (hs : ∀ H1, Ex G H1 → ∀ Q : VK, RetV z H1 Q → ∀ E, sp vs H1 Q E) : Ev (tCall sp [] E ta) σ G z :=
  ev_call h (by rw [List.append_nil]; exact fun H1 e Q q E => hs H1 e Q q E)
theorem el_call1 {sp : Sp} {vs xs : List V} {E : XK} {ta : TA} (h : EvA ta σ G vs) (hs : ∀ H1, Ex G H1 → ∀ Q : VK, RetL xs H1 Q → ∀ E, sp vs H1 Q E) : EvL (tCall sp [] E ta) σ G xs :=
  el_call h (by rw [List.append_nil]; exact fun H1 e Q q E => hs H1 e Q q E)
end
end GR
namespace GR
open PySem PySem.Spec PyProof.Rows L2 Evl
section
variable {K : PySem.W.Frag} {σ : L2.St} {G H H' : Hp} {ta tb tc te tx : TE} {t u : TT} {x y z v : V} {D : Ends} {tu tw tz : TS} {g : TG}
/-! ### dicts -/
def constPairs (kvs : List (Str × Int)) : List (TE × TE) := kvs.map fun p => (tC (.str p.1), tC (.int p.2))
theorem pairs_const : ∀ (kvs : List (Str × Int)) (σ : L2.St) (H : Hp) (F : List (V × V) → Hp → Prop), F (kvs.map fun p => (V.str p.1, V.int p.2)) H → tPairs (constPairs kvs) σ H F
  | [], _, _, _, h => h
  | p :: r, σ, H, F, h => pairs_const r σ H (fun ps H3 => F ((V.str p.1, V.int p.2) :: ps) H3) h
/-- d = {'a': 1, ..}, the rest -/
theorem a_setDC {i : Nat} (kvs : List (Str × Int)) (hl : kvs.length ≤ 15) (e : Ex G H) (k : ∀ p H1, G p = none → Ex (upd G p (.dK (mergeK [] (kvs.map fun x => ((Sum.inr x.1 : Key), V.int x.2))))) H1 → tz D (σ.set i (some (.ref p))) H1) : tSeq (tAsg (tDisp (constPairs kvs)) (gName i)) tz D σ H := fun p hp =>
  pairs_const kvs σ _ _ ⟨upd_same, kvs.map fun x => ((Sum.inr x.1 : Key), V.int x.2), by rw [List.map_map]; rfl, by rw [List.length_map]; exact hl, k p _ (fresh_back e hp) (by
    rw [upd_upd]
    exact ex_upd e p _)⟩
/-- d[k] -/
theorem ev_dget {p : Addr} {kvs : List (Key × V)} {k : Key} (h1 : Ev ta σ G (.ref p)) (h2 : Ev tb σ G (kV k)) (hp : G p = some (.dK kvs)) (hv : valV kvs k = some v) : Ev (tDGet ta tb) σ G v := fun H1 e Q q =>
  h1 H1 e _ fun H2 e2 => h2 H2 (e.trans e2) _ fun H3 e3 => ⟨p, v, rfl, by
    rw [← hv]
    exact DGet.k (((e.trans e2).trans e3) p _ hp), q H3 (e2.trans e3)⟩
/-- k in d, k not in d -/
theorem ev_din {p : Addr} {kvs : List (Key × V)} {k : Key} (h1 : Ev ta σ G (.ref p)) (h2 : Ev tb σ G (kV k)) (hp : G p = some (.dK kvs)) : Ev (tDIn tb ta) σ G (.bl (valV kvs k).isSome) := fun H1 e Q q =>
  h2 H1 e _ fun H2 e2 => h1 H2 (e.trans e2) _ fun H3 e3 => ⟨p, _, rfl, DGet.k (((e.trans e2).trans e3) p _ hp), q H3 (e2.trans e3)⟩
theorem ev_dnotin {p : Addr} {kvs : List (Key × V)} {k : Key} (h1 : Ev ta σ G (.ref p)) (h2 : Ev tb σ G (kV k)) (hp : G p = some (.dK kvs)) : Ev (tDNotIn tb ta) σ G (.bl (!(valV kvs k).isSome)) := fun H1 e Q q =>
  h2 H1 e _ fun H2 e2 => h1 H2 (e.trans e2) _ fun H3 e3 => ⟨p, _, rfl, DGet.k (((e.trans e2).trans e3) p _ hp), q H3 (e2.trans e3)⟩
/-- d = {}, the rest -/
theorem a_setD0 {i : Nat} (e : Ex G H) (k : ∀ p H1, G p = none → Ex (upd G p (.dK [])) H1 → tz D (σ.set i (some (.ref p))) H1) : tSeq (tAsg tDNewK (gName i)) tz D σ H := fun p hp =>
  k p _ (fresh_back e hp) (ex_upd e p _)
/-- d[k] = v, the rest -/
theorem a_dput {p : Addr} {kvs : List (Key × V)} {k : Key} (e : Ex G H) (h : Ev tc σ G v) (h1 : Ev ta σ G (.ref p)) (h2 : Ev tb σ G (kV k)) (hp : G p = some (.dK kvs)) (hz : kvs.length < 100000) (q : ∀ H1, Ex (upd G p (.dK (putK kvs k v))) H1 → tz D σ H1) : tSeq (sDPut ta tb tc) tz D σ H :=
  h H e _ fun H1 e1 => h1 H1 (e.trans e1) _ fun H2 e2 => h2 H2 ((e.trans e1).trans e2) _ fun H3 e3 => ⟨p, _, rfl, DPut.k ((((e.trans e1).trans e2).trans e3) p _ hp) (sz_lt hz), q _ (ex_upd (((e.trans e1).trans e2).trans e3) p _)⟩
theorem a_dput1 {p : Addr} {kvs : List (Key × V)} {k : Key} (e : Ex G H) (h : Ev tc σ G v) (h1 : Ev ta σ G (.ref p)) (h2 : Ev tb σ G (kV k)) (hp : G p = some (.dK kvs)) (hz : kvs.length < 100000) (q : ∀ H1, Ex (upd G p (.dK (putK kvs k v))) H1 → D.nx σ H1) : sDPut ta tb tc D σ H :=
  h H e _ fun H1 e1 => h1 H1 (e.trans e1) _ fun H2 e2 => h2 H2 ((e.trans e1).trans e2) _ fun H3 e3 => ⟨p, _, rfl, DPut.k ((((e.trans e1).trans e2).trans e3) p _ hp) (sz_lt hz), q _ (ex_upd (((e.trans e1).trans e2).trans e3) p _)⟩
/-- for x in xs -/
theorem a_forL {p : Addr} {xs : List V} {tl : TE} {j : Nat} (e : Ex G H) (h : Ev tl σ G (.ref p)) (hx : SqL K G p xs) (Pv : Nat → L2.St → Hp → Prop) (h0 : ∀ H1, Ex G H1 → Pv 0 σ H1) (hl : ∀ i σ' H', i ≤ xs.length → Pv i σ' H' → SqL K H' p xs)
    (hs : ∀ i x σ' H', xs[i]? = some x → Pv i σ' H' → tu { D with nx := Pv (i + 1), ct := Pv (i + 1), bk := tz D } (σ'.set j (some x)) H') (hd : ∀ σ' H', Pv xs.length σ' H' → tz D σ' H') : tSeq (tFor (iList K tl) (gName j) tu) tz D σ H :=
  q_forLn (h.mono e) (ex_l e hx) Pv (fun H1 e1 => h0 H1 (e.trans e1)) hl hs hd
theorem a_forNL {xs : List V} {tl : TE} {j : Nat} (e : Ex G H) (h : EvL tl σ G xs) (Pv : Addr → Nat → L2.St → Hp → Prop) (h0 : ∀ p H1, G p = none → Ex (upd G p (.lst xs)) H1 → Pv p 0 σ H1) (hl : ∀ p i σ' H', i ≤ xs.length → Pv p i σ' H' → SqL K H' p xs)
    (hs : ∀ p i x σ' H', xs[i]? = some x → Pv p i σ' H' → tu { D with nx := Pv p (i + 1), ct := Pv p (i + 1), bk := tz D } (σ'.set j (some x)) H') (hd : ∀ p σ' H', Pv p xs.length σ' H' → tz D σ' H') : tSeq (tFor (iList K tl) (gName j) tu) tz D σ H :=
  q_forNLn (h.mono e) Pv (fun p H1 hp e1 hx => h0 p H1 (fresh_back e hp) (ex_to (e.trans e1) hx)) hl hs hd
theorem a_forT {p : Addr} {xs : List V} {tl : TE} {j : Nat} (e : Ex G H) (h : Ev tl σ G (.ref p)) (hx : SqT K G p xs) (Pv : Nat → L2.St → Hp → Prop) (h0 : ∀ H1, Ex G H1 → Pv 0 σ H1) (hl : ∀ i σ' H', i ≤ xs.length → Pv i σ' H' → SqT K H' p xs)
    (hs : ∀ i x σ' H', xs[i]? = some x → Pv i σ' H' → tu { D with nx := Pv (i + 1), ct := Pv (i + 1), bk := tz D } (σ'.set j (some x)) H') (hd : ∀ σ' H', Pv xs.length σ' H' → tz D σ' H') : tSeq (tFor (iTup K tl) (gName j) tu) tz D σ H :=
  q_forT (h.mono e) (ex_t e hx) Pv (fun H1 e1 => h0 H1 (e.trans e1)) hl hs hd
end
end GR
namespace GR
open PySem PySem.Spec PyProof.Rows L2 Evl
section
variable {K : PySem.W.Frag} {σ : L2.St} {G H H' : Hp} {ta tb tc te tx : TE} {t u : TT} {x y z v : V} {D : Ends} {tu tw tz : TS} {g : TG}
/-- a new list of which P holds -/
def EvN (te : TE) (σ : L2.St) (G : Hp) (P : List V → Prop) : Prop := ∀ H1, Ex G H1 → ∀ Q : VK, (∀ xs p H2, P xs → H1 p = none → Ex H1 H2 → H2 p = some (.lst xs) → Q (.ref p) H2) → te σ H1 Q
theorem a_setN {i : Nat} {P : List V → Prop} (e : Ex G H) (h : EvN te σ G P) (k : ∀ xs p H1, P xs → G p = none → Ex (upd G p (.lst xs)) H1 → tz D (σ.set i (some (.ref p))) H1) : tSeq (tAsg te (gName i)) tz D σ H :=
  h H e _ fun xs p H1 hP hp e1 h1 => k xs p H1 hP (fresh_back e hp) (ex_to (e.trans e1) h1)
theorem en_callL {sp : Sp} {E : XK} {xs : List V} {P : List V → Prop} (h1 : Ev ta σ G x) (h2 : ∀ H1, Ex G H1 → EvL tb σ H1 xs) (hs : ∀ p H1, Ex G H1 → H1 p = some (.lst xs) → ∀ Q : VK, (∀ ys q H2, P ys → H1 q = none → Ex H1 H2 → H2 q = some (.lst ys) → Q (.ref q) H2) → ∀ E, sp [x, .ref p] H1 Q E) : EvN (tCall sp [] E (tCons ta (tCons tb tNil))) σ G P := fun H1 e Q q =>
  h1 H1 e _ fun H2 e2 => h2 H2 (e.trans e2) H2 (Ex.refl H2) _ fun p H3 hp e3 h3 => hs p H3 ((e.trans e2).trans e3) h3 Q (fun ys r H4 hP hr e4 h4 => q ys r H4 hP (fresh_back (e2.trans e3) hr) ((e2.trans e3).trans e4) h4) E
end
end GR
namespace GR
open PySem PySem.Spec PyProof.Rows L2 Evl
section
variable {X : Cx}
/-- xs + ys, two lists that may be read -/
def rCatL (K : PySem.W.Frag) : R2 := fun x y H Q => ∃ l b xs zs, x = .ref l ∧ y = .ref b ∧ SqL K H l xs ∧ SqL K H b zs ∧ xs.length + zs.length ≤ sizeLine ∧ ∀ p, H p = none → Q (.ref p) (upd H p (.lst (xs ++ zs)))
theorem op_catL : OpR X (binaryOp .Add) (rCatL X.K) := by
  intro pins s σ H x y v u Q I rx ry h
  obtain ⟨l, b, xs, zs, rfl, rfl, hH, hB, hz, q⟩ := h
  cases rx
  cases ry
  obtain ⟨its, r, pl, hl⟩ := I.list hH
  obtain ⟨its2, r2, pl2, hl2⟩ := I.list hB
  obtain ⟨⟨cls, dd, data, sl⟩, n, ho, hc, hdd, hd⟩ := id pl
  obtain ⟨⟨cls2, dd2, data2, sl2⟩, n2, ho2, hc2, hdd2, hd2⟩ := id pl2
  simp only at hc hd hc2 hd2
  subst hc hd hc2 hd2
  have e : its.toArray ++ its2.toArray = (its ++ its2).toArray := by simp
  have len1 := r.length
  have len2 := r2.length
  refine concat_meets ⟨_, ho, rfl⟩ ⟨_, ho2, rfl⟩ noFill_list_add seq_list_add PySem.F.slot_list_add PySem.F.entry_list_add (PySem.F.args_list_add_2 _ _) (list_addW l b its.toArray its2.toArray n n2 dd dd2 sl sl2 (by simp; omega)) ⟨ho, ho2, ?_⟩
  rw [e]
  exact ⟨.ref _, _, I.lnew (t' := s.toks) (r.append r2) (by rw [List.length_append]; omega), rfl, q _ I.fresh⟩
end
section
variable {K : PySem.W.Frag} {σ : L2.St} {G H H' : Hp} {ta tb tc te tx : TE} {t u : TT} {x y z v : V} {D : Ends} {tu tw tz : TS} {g : TG}
theorem el_catL {l b : Addr} {xs zs : List V} (h1 : Ev ta σ G (.ref l)) (h2 : Ev tb σ G (.ref b)) (s1 : SqL K G l xs) (s2 : SqL K G b zs) (hz : xs.length + zs.length ≤ 100000) : EvL (tOp (rCatL K) ta tb) σ G (xs ++ zs) := fun H1 e Q q =>
  h1 H1 e _ fun H2 e2 => h2 H2 (e.trans e2) _ fun H3 e3 => ⟨l, b, xs, zs, rfl, rfl, ex_l ((e.trans e2).trans e3) s1, ex_l ((e.trans e2).trans e3) s2, sz_of hz, fun p hp => q p _ (fresh_back (e2.trans e3) hp) ((e2.trans e3).trans (Ex.new hp)) upd_same⟩
/-- .. the first a new list, .. the second, .. both -/
theorem el_catNL {b : Addr} {xs zs : List V} (h1 : EvL ta σ G xs) (h2 : ∀ H1, Ex G H1 → Ev tb σ H1 (.ref b)) (s2 : SqL K G b zs) (hz : xs.length + zs.length ≤ 100000) : EvL (tOp (rCatL K) ta tb) σ G (xs ++ zs) := fun H1 e Q q =>
  h1 H1 e _ fun l H2 hl e2 hx => h2 H2 (e.trans e2) H2 (Ex.refl H2) _ fun H3 e3 => ⟨l, b, xs, zs, rfl, rfl, sq_of (e3 _ _ hx), ex_l ((e.trans e2).trans e3) s2, sz_of hz, fun p hp => q p _ (fresh_back (e2.trans e3) hp) ((e2.trans e3).trans (Ex.new hp)) upd_same⟩
theorem el_catLN {l : Addr} {xs zs : List V} (h1 : Ev ta σ G (.ref l)) (s1 : SqL K G l xs) (h2 : ∀ H1, Ex G H1 → EvL tb σ H1 zs) (hz : xs.length + zs.length ≤ 100000) : EvL (tOp (rCatL K) ta tb) σ G (xs ++ zs) := fun H1 e Q q =>
  h1 H1 e _ fun H2 e2 => h2 H2 (e.trans e2) H2 (Ex.refl H2) _ fun b H3 hb e3 hx => ⟨l, b, xs, zs, rfl, rfl, ex_l ((e.trans e2).trans e3) s1, sq_of hx, sz_of hz, fun p hp => q p _ (fresh_back (e2.trans e3) hp) ((e2.trans e3).trans (Ex.new hp)) upd_same⟩
theorem el_catNN {xs zs : List V} (h1 : EvL ta σ G xs) (h2 : ∀ H1, Ex G H1 → EvL tb σ H1 zs) (hz : xs.length + zs.length ≤ 100000) : EvL (tOp (rCatL K) ta tb) σ G (xs ++ zs) := fun H1 e Q q =>
  h1 H1 e _ fun l H2 hl e2 hx => h2 H2 (e.trans e2) H2 (Ex.refl H2) _ fun b H3 hb e3 hy => ⟨l, b, xs, zs, rfl, rfl, sq_of (e3 _ _ hx), sq_of hy, sz_of hz, fun p hp => q p _ (fresh_back (e2.trans e3) hp) ((e2.trans e3).trans (Ex.new hp)) upd_same⟩
/-- a slice of a new list -/
theorem el_slN {tl th : TO} {xs : List V} {lo hi : Option Int} (h : EvL te σ G xs) (h1 : ∀ H1, Ex G H1 → EvO tl σ H1 lo) (h2 : ∀ H1, Ex G H1 → EvO th σ H1 hi) : EvL (tSl (rSlL K) te tl th) σ G (cutV xs lo hi) := fun H1 e Q q =>
  h H1 e _ fun a H2 ha e2 hx => h1 H2 (e.trans e2) H2 (Ex.refl H2) _ fun H3 e3 => h2 H3 ((e.trans e2).trans e3) H3 (Ex.refl H3) _ fun H4 e4 =>
    ⟨a, xs, rfl, sq_of (e4 _ _ (e3 _ _ hx)), fun p hp => q p _ (fresh_back ((e2.trans e3).trans e4) hp) (((e2.trans e3).trans e4).trans (Ex.new hp)) upd_same⟩
theorem cutV_to {xs : List V} {n : Nat} : cutV xs none (some (n : Int)) = xs.take n := by
  unfold cutV
  rw [HT.sIx_none, show HT.sIx xs.length xs.length (some (n : Int)) = min n xs.length from HT.sIx_nat xs.length xs.length n]
  simp
theorem cutV_from {xs : List V} {n : Nat} : cutV xs (some (n : Int)) none = xs.drop n := by
  unfold cutV
  rw [HT.sIx_none, show HT.sIx xs.length 0 (some (n : Int)) = min n xs.length from HT.sIx_nat xs.length 0 n]
  by_cases h : n ≤ xs.length
  · rw [Nat.min_eq_left h]
    exact List.take_of_length_le (by rw [List.length_drop]; omega)
  · rw [Nat.min_eq_right (by omega), List.drop_of_length_le (Nat.le_refl _), List.drop_of_length_le (by omega)]
    simp
/-- an if's way out: what follows is shown once -/
theorem a_forNLm {xs : List V} {tl : TE} {j : Nat} (e : Ex G H) (h : EvL tl σ G xs) (Pv : Addr → Nat → L2.St → Hp → Prop) (h0 : ∀ p H1, G p = none → Ex (upd G p (.lst xs)) H1 → Pv p 0 σ H1) (hl : ∀ p i σ' H', i ≤ xs.length → Pv p i σ' H' → SqL K H' p xs)
    (hs : ∀ p i x σ' H', xs[i]? = some x → Pv p i σ' H' → tu { D with nx := Pv p (i + 1), ct := Pv p (i + 1), bk := tz D } (σ'.set j (some x)) H') (hd : ∀ p σ' H', Pv p xs.length σ' H' → tz D σ' H') : tSeq (tFor (iList K tl) (gName j) tu) tz D σ H :=
  a_forNL e h Pv h0 hl hs hd
end
end GR
namespace GR
open PySem PySem.Spec PyProof.Rows L2 Evl
section
variable {K : PySem.W.Frag} {σ : L2.St} {G H H' : Hp} {ta tb tc te tx : TE} {t u : TT} {x y z v : V} {D : Ends} {tu tw tz : TS} {g : TG}
/-- a value of which P holds, the heap but grown -/
def EvW (te : TE) (σ : L2.St) (G : Hp) (P : V → Prop) : Prop := ∀ H1, Ex G H1 → ∀ Q : VK, (∀ v H2, P v → Ex H1 H2 → Q v H2) → te σ H1 Q
theorem a_setV {i : Nat} {P : V → Prop} (e : Ex G H) (h : EvW te σ G P) (k : ∀ v H1, P v → Ex G H1 → tz D (σ.set i (some v)) H1) : tSeq (tAsg te (gName i)) tz D σ H :=
  h H e _ fun v H1 hP e1 => k v H1 hP (e.trans e1)
theorem ew_call {sp : Sp} {vs : List V} {E : XK} {ta : TA} {P : V → Prop} (h : EvA ta σ G vs) (hs : ∀ H1, Ex G H1 → ∀ Q : VK, (∀ v H2, P v → Ex H1 H2 → Q v H2) → ∀ E, sp vs H1 Q E) : EvW (tCall sp [] E ta) σ G P := fun H1 e Q q =>
  h H1 e _ fun H2 e2 => by
    rw [List.append_nil]
    exact hs H2 (e.trans e2) Q (fun v H3 hP e3 => q v H3 hP (e2.trans e3)) E
theorem eu_call {sp : Sp} {vs xs : List V} {E : XK} {ta : TA} (h : EvA ta σ G vs) (hs : ∀ H1, Ex G H1 → ∀ Q : VK, (∀ p H2, H1 p = none → Ex H1 H2 → H2 p = some (.tup xs) → Q (.ref p) H2) → ∀ E, sp vs H1 Q E) : EvU (tCall sp [] E ta) σ G xs := fun H1 e Q q =>
  h H1 e _ fun H2 e2 => by
    rw [List.append_nil]
    exact hs H2 (e.trans e2) Q (fun p H3 hp e3 h3 => q p H3 (fresh_back e2 hp) (e2.trans e3) h3) E
theorem en_call {sp : Sp} {vs : List V} {E : XK} {ta : TA} {P : List V → Prop} (h : EvA ta σ G vs) (hs : ∀ H1, Ex G H1 → ∀ Q : VK, (∀ xs p H2, P xs → H1 p = none → Ex H1 H2 → H2 p = some (.lst xs) → Q (.ref p) H2) → ∀ E, sp vs H1 Q E) : EvN (tCall sp [] E ta) σ G P := fun H1 e Q q =>
  h H1 e _ fun H2 e2 => by
    rw [List.append_nil]
    exact hs H2 (e.trans e2) Q (fun xs p H3 hP hp e3 h3 => q xs p H3 hP (fresh_back e2 hp) (e2.trans e3) h3) E
end
end GR
namespace GR
open PySem PySem.Spec PyProof.Rows L2 Evl
section
variable {K : PySem.W.Frag} {σ : L2.St} {G H H' : Hp} {ta tb tc te tx : TE} {t u : TT} {x y z v : V} {D : Ends} {tu tw tz : TS} {g : TG}
theorem et_yes : EvT tYes σ G true := fun H1 _ _ q => q H1 (Ex.refl H1)
/-! ### comprehensions -/
/-- one turn: the target, the test, the element, on the item x -/
def Turn1 (g : TG) (t : TT) (te : TE) (vs : List Nat) (σ : L2.St) (G : Hp) (fx : V → Option V) (x : V) : Prop :=
  ∃ σ2 : L2.St, (∀ H1, Ex G H1 → ∀ Q : L2.St → Hp → Prop, (∀ H2, Ex H1 H2 → Q σ2 H2) → g x (wipe σ vs) H1 Q) ∧ wipe σ2 vs = wipe σ vs ∧ EvT t σ2 G (fx x).isSome ∧ ∀ y, fx x = some y → Ev te σ2 G y
def CwF (G : Hp) (fx : V → Option V) (xs : List V) (Dl : Addr) (i : Nat) (H' : Hp) : Prop := G Dl = none ∧ Ex G H' ∧ H' Dl = some (.lst ((xs.take i).filterMap fx))
theorem cwF_turn {fx : V → Option V} {xs : List V} {vs : List Nat} {Dl : Addr} {i : Nat} (hi : xs[i]? = some x) (hz : xs.length ≤ 50000) (p : CwF G fx xs Dl i H') (h : Turn1 g t te vs σ G fx x) :
    g x (wipe σ vs) H' fun σ2 H2 => wipe σ2 vs = wipe σ vs ∧ t σ2 H2 fun b H3 => if b = true then te σ2 H3 fun y H4 => ∃ acc, H4 Dl = some (.lst acc) ∧ acc.length < sizeLine ∧ CwF G fx xs Dl (i + 1) (upd H4 Dl (.lst (acc ++ [y]))) else CwF G fx xs Dl (i + 1) H3 := by
  obtain ⟨p1, p2, p3⟩ := p
  obtain ⟨σ2, hg, hw, ht, he⟩ := h
  have hlt := (List.getElem?_eq_some_iff.mp hi).1
  have hx : xs[i] = x := (List.getElem?_eq_some_iff.mp hi).2
  refine hg H' p2 _ fun H2 e2 => ⟨hw, ht H2 (p2.trans e2) _ fun H3 e3 => ?_⟩
  have hlen : ((xs.take i).filterMap fx).length ≤ xs.length := by
    have h1 := List.length_filterMap_le fx (xs.take i)
    rw [List.length_take] at h1
    omega
  cases hf : fx x with
  | some y =>
    show te σ2 H3 fun y H4 => ∃ acc, H4 Dl = some (.lst acc) ∧ acc.length < sizeLine ∧ CwF G fx xs Dl (i + 1) (upd H4 Dl (.lst (acc ++ [y])))
    refine he y hf H3 ((p2.trans e2).trans e3) _ fun H4 e4 => ⟨_, e4 Dl _ (e3 Dl _ (e2 Dl _ p3)), sz_lt (by omega), p1, Ex.mut (((p2.trans e2).trans e3).trans e4) p1, ?_⟩
    rw [upd_same, List.take_add_one, List.getElem?_eq_getElem hlt, hx]
    simp [hf]
  | none =>
    show CwF G fx xs Dl (i + 1) H3
    refine ⟨p1, (p2.trans e2).trans e3, ?_⟩
    rw [List.take_add_one, List.getElem?_eq_getElem hlt, hx, e3 Dl _ (e2 Dl _ p3)]
    simp [hf]
theorem turn_mono {G1 : Hp} {fx : V → Option V} {vs : List Nat} (e : Ex G G1) (h : Turn1 g t te vs σ G fx x) : Turn1 g t te vs σ G1 fx x := by
  obtain ⟨σ2, hg, hw, ht, he⟩ := h
  exact ⟨σ2, fun H1 e1 Q q => hg H1 (e.trans e1) Q q, hw, ht.mono e, fun y hy => (he y hy).mono e⟩
/-- over a list, a tuple, a range -/
theorem el_fL {a : Addr} {xs : List V} {vs : List Nat} (fx : V → Option V) (h : Ev tx σ G (.ref a)) (hx : SqL K G a xs) (hz : xs.length ≤ 50000) (ht : ∀ x ∈ xs, Turn1 g t te vs σ G fx x) : EvL (tLc (iList K tx) g t te vs) σ G (xs.filterMap fx) := fun H0 e Q q => h H0 e _ fun H1 e1 => ⟨a, rfl, ⟨xs, ex_l (e.trans e1) hx⟩, fun Dl hD =>
  lc_list (xs := xs) (CwF H1 fx xs Dl) ⟨hD, Ex.new hD, upd_same⟩ (fun i H' _ p => ex_l ((e.trans e1).trans p.2.1) hx) (fun i x H' hi p => cwF_turn hi hz p (turn_mono (e.trans e1) (ht x (List.mem_of_getElem? hi))))
    (fun H' p => q Dl H' (fresh_back e1 p.1) (e1.trans p.2.1) (by rw [p.2.2, List.take_of_length_le (Nat.le_refl _)]))⟩
theorem el_fT {a : Addr} {xs : List V} {vs : List Nat} (fx : V → Option V) (h : Ev tx σ G (.ref a)) (hx : SqT K G a xs) (hz : xs.length ≤ 50000) (ht : ∀ x ∈ xs, Turn1 g t te vs σ G fx x) : EvL (tLc (iTup K tx) g t te vs) σ G (xs.filterMap fx) := fun H0 e Q q => h H0 e _ fun H1 e1 => ⟨a, rfl, ⟨xs, ex_t (e.trans e1) hx⟩, fun Dl hD =>
  lc_tup (xs := xs) (CwF H1 fx xs Dl) ⟨hD, Ex.new hD, upd_same⟩ (fun i H' _ p => ex_t ((e.trans e1).trans p.2.1) hx) (fun i x H' hi p => cwF_turn hi hz p (turn_mono (e.trans e1) (ht x (List.mem_of_getElem? hi))))
    (fun H' p => q Dl H' (fresh_back e1 p.1) (e1.trans p.2.1) (by rw [p.2.2, List.take_of_length_le (Nat.le_refl _)]))⟩
theorem el_fNL {xs : List V} {vs : List Nat} (fx : V → Option V) (h : EvL tx σ G xs) (hz : xs.length ≤ 50000) (ht : ∀ x ∈ xs, Turn1 g t te vs σ G fx x) : EvL (tLc (iList K tx) g t te vs) σ G (xs.filterMap fx) := fun H0 e Q q => h H0 e _ fun a H1 ha e1 hx => ⟨a, rfl, ⟨xs, sq_of hx⟩, fun Dl hD =>
  lc_list (xs := xs) (CwF H1 fx xs Dl) ⟨hD, Ex.new hD, upd_same⟩ (fun i H' _ p => sq_of (p.2.1 a _ hx)) (fun i x H' hi p => cwF_turn hi hz p (turn_mono (e.trans e1) (ht x (List.mem_of_getElem? hi))))
    (fun H' p => q Dl H' (fresh_back e1 p.1) (e1.trans p.2.1) (by rw [p.2.2, List.take_of_length_le (Nat.le_refl _)]))⟩
def rng (n : Int) : List V := (List.range n.toNat).map fun (i : Nat) => V.int (i : Int)
theorem rng_mem {n : Int} (h : x ∈ rng n) : ∃ i : Nat, x = .int (i : Int) ∧ (i : Int) < n := by
  obtain ⟨i, hi, rfl⟩ := List.mem_map.mp h
  exact ⟨i, rfl, by have := List.mem_range.mp hi; omega⟩
theorem el_fR {ta : TA} {vs : List Nat} {n : Int} (fx : V → Option V) (h : EvA ta σ G [.int n]) (hn : 0 ≤ n ∧ n ≤ 40000) (ht : ∀ i : Nat, (i : Int) < n → Turn1 g t te vs σ G fx (.int (i : Int))) : EvL (tLc (iRng1 ta) g t te vs) σ G ((rng n).filterMap fx) := fun H0 e Q q => h H0 e _ fun H1 e1 => ⟨n, rfl, by omega, by omega, fun Dl hD =>
  lc_range (lo := 0) (n := n.toNat) (CwF H1 fx (rng n) Dl) ⟨hD, Ex.new hD, upd_same⟩ (fun i H' hi p => by
    have e0 : (0 : Int) + (i : Int) = (i : Int) := Int.zero_add _
    rw [e0]
    have hx : (rng n)[i]? = some (V.int (i : Int)) := by
      unfold rng
      rw [List.getElem?_map, List.getElem?_range hi]
      rfl
    exact cwF_turn hx (by unfold rng; rw [List.length_map, List.length_range]; omega) p (turn_mono (e.trans e1) (ht i (by omega))))
    (fun H' p => q Dl H' (fresh_back e1 p.1) (e1.trans p.2.1) (by rw [p.2.2, List.take_of_length_le (by unfold rng; rw [List.length_map, List.length_range]; exact Nat.le_refl _)]))⟩
/-- a turn whose target is a name -/
theorem turn_name {j : Nat} {vs : List Nat} {fx : V → Option V} (hw : wipe ((wipe σ vs).set j (some x)) vs = wipe σ vs) (ht : EvT t ((wipe σ vs).set j (some x)) G (fx x).isSome) (he : ∀ y, fx x = some y → Ev te ((wipe σ vs).set j (some x)) G y) : Turn1 (gName j) t te vs σ G fx x :=
  ⟨_, fun H1 _ Q q => q H1 (Ex.refl H1), hw, ht, he⟩
/-- .. no test, the element a function of the item -/
theorem turn_map {j : Nat} {vs : List Nat} {f : V → V} (hw : wipe ((wipe σ vs).set j (some x)) vs = wipe σ vs) (he : Ev te ((wipe σ vs).set j (some x)) G (f x)) : Turn1 (gName j) tYes te vs σ G (fun x => some (f x)) x :=
  turn_name hw et_yes fun y hy => by
    obtain rfl := Option.some.inj hy
    exact he
/-- a target of three names -/
theorem g3 {i j k : Nat} {a : Addr} {Q : L2.St → Hp → Prop} (h : SqT K H a [x, y, z]) (q : Q (((σ.set i (some x)).set j (some y)).set k (some z)) H) : gTup K 3 (gCons (gName i) (gCons (gName j) (gCons (gName k) gNil))) (.ref a) σ H Q :=
  ⟨a, _, rfl, h, rfl, x, _, rfl, y, _, rfl, z, _, rfl, rfl, q⟩
theorem g2 {i j : Nat} {a : Addr} {Q : L2.St → Hp → Prop} (h : SqT K H a [x, y]) (q : Q ((σ.set i (some x)).set j (some y)) H) : gTup K 2 (gCons (gName i) (gCons (gName j) gNil)) (.ref a) σ H Q :=
  ⟨a, _, rfl, h, rfl, x, _, rfl, y, _, rfl, rfl, q⟩
theorem a_forTg {p : Addr} {xs : List V} {tl : TE} (e : Ex G H) (h : Ev tl σ G (.ref p)) (hx : SqT K G p xs) (Pv : Nat → L2.St → Hp → Prop) (h0 : ∀ H1, Ex G H1 → Pv 0 σ H1) (hl : ∀ i σ' H', i ≤ xs.length → Pv i σ' H' → SqT K H' p xs)
    (hs : ∀ i x σ' H', xs[i]? = some x → Pv i σ' H' → g x σ' H' fun σ2 H2 => tu { D with nx := Pv (i + 1), ct := Pv (i + 1), bk := tz D } σ2 H2) (hd : ∀ σ' H', Pv xs.length σ' H' → tz D σ' H') : tSeq (tFor (iTup K tl) g tu) tz D σ H :=
  q_forT (h.mono e) (ex_t e hx) Pv (fun H1 e1 => h0 H1 (e.trans e1)) hl hs hd
/-- x += n -/
theorem a_aug {i : Nat} {f : Int → Int → Int} {m n : Int} (e : Ex G H) (hx : σ[i]? = some (some (.int m))) (h : Ev te σ G (.int n)) (k : ∀ H1, Ex G H1 → tz D (σ.set i (some (.int (f m n)))) H1) : tSeq (tAug i te (ipI f)) tz D σ H :=
  q_aug hx (h.mono e) fun H1 e1 => k H1 (e.trans e1)
theorem a_aug1 {i : Nat} {f : Int → Int → Int} {m n : Int} (e : Ex G H) (hx : σ[i]? = some (some (.int m))) (h : Ev te σ G (.int n)) (k : ∀ H1, Ex G H1 → D.nx (σ.set i (some (.int (f m n)))) H1) : tAug i te (ipI f) D σ H :=
  s_aug hx (h.mono e) fun H1 e1 => k H1 (e.trans e1)
/-! ### calls of defs that may raise, and of defs that change what stands: what follows is handed to the promise -/
theorem a_callX {sp : Sp} {E : XK} {ta : TA} {vs : List V} (e : Ex G H) (h : EvA ta σ G vs) (k : ∀ H1, Ex G H1 → sp vs H1 (fun _ H2 => tz D σ H2) E) : tSeq (tDrop (tCall sp [] E ta)) tz D σ H :=
  h H e _ fun H1 e1 => by
    rw [List.append_nil]
    exact k H1 (e.trans e1)
theorem a_callX1 {sp : Sp} {E : XK} {ta : TA} {vs : List V} (e : Ex G H) (h : EvA ta σ G vs) (k : ∀ H1, Ex G H1 → sp vs H1 (fun _ H2 => D.nx σ H2) E) : tDrop (tCall sp [] E ta) D σ H :=
  h H e _ fun H1 e1 => by
    rw [List.append_nil]
    exact k H1 (e.trans e1)
theorem a_setX {sp : Sp} {E : XK} {ta : TA} {vs : List V} {i : Nat} (e : Ex G H) (h : EvA ta σ G vs) (k : ∀ H1, Ex G H1 → sp vs H1 (fun v H2 => tz D (σ.set i (some v)) H2) E) : tSeq (tAsg (tCall sp [] E ta) (gName i)) tz D σ H :=
  h H e _ fun H1 e1 => by
    rw [List.append_nil]
    exact k H1 (e.trans e1)
theorem a_retX {sp : Sp} {E : XK} {ta : TA} {vs : List V} (e : Ex G H) (h : EvA ta σ G vs) (k : ∀ H1, Ex G H1 → sp vs H1 D.rt E) : tRet (tCall sp [] E ta) D σ H :=
  h H e _ fun H1 e1 => by
    rw [List.append_nil]
    exact k H1 (e.trans e1)
/-! ### f-strings: some text -/
theorem js_nil {acc : Str} {Q : Str → Hp → Prop} (q : ∀ out H1, Ex G H1 → Q out H1) (e : Ex G H) : tJs [] acc σ H Q := q _ _ e
/-- parts that are short texts -/
def Parts : List TE → L2.St → Hp → Prop
  | [], _, _ => True
  | t :: ts, σ, G => (∃ y : Str, y.length ≤ 2000 ∧ Ev t σ G (.str y)) ∧ Parts ts σ G
theorem js_run : ∀ (ts : List TE) (acc : Str) (H : Hp) (Q : Str → Hp → Prop), Parts ts σ G → acc.length + 2000 * ts.length ≤ 100000 → Ex G H → (∀ out H1, Ex H H1 → Q out H1) → tJs ts acc σ H Q
  | [], acc, H, Q, _, _, _, q => q acc H (Ex.refl H)
  | t :: ts, acc, H, Q, ⟨⟨y, hy, h⟩, r⟩, hl, e, q => h H e _ fun H1 e1 => ⟨y, rfl, sz_of (by
      have : (acc ++ y).length = acc.length + y.length := PySem.Str.length_append _ _
      rw [List.length_cons] at hl
      omega), js_run ts (acc ++ y) H1 Q r (by
      have : (acc ++ y).length = acc.length + y.length := PySem.Str.length_append _ _
      rw [List.length_cons] at hl
      omega) (e.trans e1) fun out H2 e2 => q out H2 (e1.trans e2)⟩
end
theorem exm_two {K : PySem.W.Frag} {S C : Addr} (h1 : PySem.W.subIn K (.ref S) (.type "BaseException") = some true) (hb : PySem.W.subIn K (.ref C) (.type "BaseException") = some true) (h2 : PySem.W.isClsIn K C = true) (h3 : PySem.W.typeIn K (.ref C) = some (.type "type")) (h4 : PySem.W.subIn K (.ref S) (.ref C) = some true) :
    PySem.W.exmOne K (.ref S) (.ref C) = some true := by
  have e1 : (PySem.W.subIn K (.ref C) (.type "BaseException") == some true) = true := by rw [hb] <;> rfl
  have e2 : ((PySem.W.clsIn K C).isSome && PySem.W.typeIn K (.ref C) == some (.type "type")) = true := by
    have h2' : (PySem.W.clsIn K C).isSome = true := h2
    rw [h2', h3] <;> rfl
  show (if (PySem.W.subIn K (.ref C) (.type "BaseException") == some true) = true then (if ((PySem.W.clsIn K C).isSome && PySem.W.typeIn K (.ref C) == some (.type "type")) = true then PySem.W.subIn K (.ref S) (.ref C) else none) else none) = some true
  rw [if_pos e1, if_pos e2]
  exact h4
end GR
namespace GR
open PySem PySem.Spec PyProof.Rows L2 Evl
section
variable {K : PySem.W.Frag} {σ : L2.St} {G H H' : Hp} {ta tb tc te tx : TE} {t u : TT} {x y z v : V} {D : Ends} {tu tw tz : TS} {g : TG}
/-- loops that end a block -/
theorem a_forL1 {p : Addr} {xs : List V} {tl : TE} {j : Nat} (e : Ex G H) (h : Ev tl σ G (.ref p)) (hx : SqL K G p xs) (Pv : Nat → L2.St → Hp → Prop) (h0 : ∀ H1, Ex G H1 → Pv 0 σ H1) (hl : ∀ i σ' H', i ≤ xs.length → Pv i σ' H' → SqL K H' p xs)
    (hs : ∀ i x σ' H', xs[i]? = some x → Pv i σ' H' → tu { D with nx := Pv (i + 1), ct := Pv (i + 1), bk := D.nx } (σ'.set j (some x)) H') (hd : ∀ σ' H', Pv xs.length σ' H' → D.nx σ' H') : tFor (iList K tl) (gName j) tu D σ H :=
  s_forLn (h.mono e) (ex_l e hx) Pv (fun H1 e1 => h0 H1 (e.trans e1)) hl hs hd
theorem a_forTg1 {p : Addr} {xs : List V} {tl : TE} (e : Ex G H) (h : Ev tl σ G (.ref p)) (hx : SqT K G p xs) (Pv : Nat → L2.St → Hp → Prop) (h0 : ∀ H1, Ex G H1 → Pv 0 σ H1) (hl : ∀ i σ' H', i ≤ xs.length → Pv i σ' H' → SqT K H' p xs)
    (hs : ∀ i x σ' H', xs[i]? = some x → Pv i σ' H' → g x σ' H' fun σ2 H2 => tu { D with nx := Pv (i + 1), ct := Pv (i + 1), bk := D.nx } σ2 H2) (hd : ∀ σ' H', Pv xs.length σ' H' → D.nx σ' H') : tFor (iTup K tl) g tu D σ H :=
  s_forT (h.mono e) (ex_t e hx) Pv (fun H1 e1 => h0 H1 (e.trans e1)) hl hs hd
theorem a_forR1 {ta : TA} {j : Nat} {n : Int} (e : Ex G H) (h : EvA ta σ G [.int n]) (hn : 0 ≤ n ∧ n ≤ 100000) (Pv : Nat → L2.St → Hp → Prop) (h0 : ∀ H1, Ex G H1 → Pv 0 σ H1)
    (hs : ∀ (i : Nat) σ' H', (i : Int) < n → Pv i σ' H' → tu { D with nx := Pv (i + 1), ct := Pv (i + 1), bk := D.nx } (σ'.set j (some (.int (i : Int)))) H') (hd : ∀ σ' H', Pv n.toNat σ' H' → D.nx σ' H') : tFor (iRng1 ta) (gName j) tu D σ H :=
  s_forR1 (fun H1 e1 => h H1 (e.trans e1)) hn Pv (fun H1 e1 => h0 H1 (e.trans e1)) hs hd
end
end GR
namespace GR
theorem nd_t {p : Prop} [Decidable p] (h : (!decide p) = true) : ¬ p := fun q => by
  rw [decide_eq_true q] at h
  cases h
theorem nd_f {p : Prop} [Decidable p] (h : (!decide p) = false) : p := by
  by_cases q : p
  · exact q
  · rw [decide_eq_false q] at h
    cases h
end GR
namespace GR
open PySem PySem.Spec PyProof.Rows L2 Evl
section
variable {K : PySem.W.Frag} {σ : L2.St} {G H H' : Hp} {ta tb tc te tx : TE} {t u : TT} {x y z v : V} {D : Ends} {tu tw tz : TS} {g : TG}
/-- f(e, [..]): the second argument a new list -/
theorem ev_callL {sp : Sp} {E : XK} {xs : List V} (h1 : Ev ta σ G x) (h2 : ∀ H1, Ex G H1 → EvL tb σ H1 xs) (hs : ∀ p H1, Ex G H1 → H1 p = some (.lst xs) → ∀ Q : VK, RetV z H1 Q → ∀ E, sp [x, .ref p] H1 Q E) : Ev (tCall sp [] E (tCons ta (tCons tb tNil))) σ G z := fun H1 e Q q =>
  h1 H1 e _ fun H2 e2 => h2 H2 (e.trans e2) H2 (Ex.refl H2) _ fun p H3 hp e3 h3 => hs p H3 ((e.trans e2).trans e3) h3 Q (fun H4 e4 => q H4 ((e2.trans e3).trans e4)) E
end
end GR
namespace GR
open PySem PySem.Spec PyProof.Rows L2 Evl
section
variable {X : Cx} {K : PySem.W.Frag}
/-- rules that speak of the written part, within a comprehension -/
theorem ixK {r : PySem.W.Frag → R2} (h : IxR X (r X.K)) (e : X.K = K) : IxR X (r K) := e ▸ h
theorem opK {f : Value → Value → Sem Value} {r : PySem.W.Frag → R2} (h : OpR X f (r X.K)) (e : X.K = K) : OpR X f (r K) := e ▸ h
theorem callK {f : Value} {r : PySem.W.Frag → List V → Hp → VK → Prop} (h : CallR X f (r X.K)) (e : X.K = K) : CallR X f (r K) := e ▸ h
theorem slK {r : PySem.W.Frag → V → Option Int → Option Int → Hp → VK → Prop} (h : SlR X (r X.K)) (e : X.K = K) : SlR X (r K) := e ▸ h
def rTupOf (K : PySem.W.Frag) : List V → Hp → VK → Prop := fun xs H Q => ∃ p ys, xs = [.ref p] ∧ ((SqL K H p ys ∧ ∀ l, H l = none → Q (.ref l) (upd H l (.tup ys))) ∨ (SqT K H p ys ∧ Q (.ref p) H))
end
end GR
namespace GR
open PySem PySem.Spec PyProof.Rows L2 Evl
section
variable {α : Type} {K : PySem.W.Frag} {σ : L2.St} {G H H' : Hp} {ta tb tc te tx : TE} {t u : TT} {x y z v : V} {D : Ends} {tu tw tz : TS} {g : TG}
/-! ### comprehensions over what stands for data cs, item by item -/
def CwD (G : Hp) (F : α → Option V) (cs : List α) (Dl : Addr) (i : Nat) (H' : Hp) : Prop := G Dl = none ∧ Ex G H' ∧ H' Dl = some (.lst ((cs.take i).filterMap F))
theorem cwD_turn {F : α → Option V} {cs : List α} {c : α} {vs : List Nat} {Dl : Addr} {i : Nat} (hi : cs[i]? = some c) (hz : cs.length ≤ 50000) (p : CwD G F cs Dl i H') (h : Turn1 g t te vs σ G (fun _ => F c) x) :
    g x (wipe σ vs) H' fun σ2 H2 => wipe σ2 vs = wipe σ vs ∧ t σ2 H2 fun b H3 => if b = true then te σ2 H3 fun y H4 => ∃ acc, H4 Dl = some (.lst acc) ∧ acc.length < sizeLine ∧ CwD G F cs Dl (i + 1) (upd H4 Dl (.lst (acc ++ [y]))) else CwD G F cs Dl (i + 1) H3 := by
  obtain ⟨p1, p2, p3⟩ := p
  obtain ⟨σ2, hg, hw, ht, he⟩ := h
  have hlt := (List.getElem?_eq_some_iff.mp hi).1
  have hx : cs[i] = c := (List.getElem?_eq_some_iff.mp hi).2
  refine hg H' p2 _ fun H2 e2 => ⟨hw, ht H2 (p2.trans e2) _ fun H3 e3 => ?_⟩
  have hlen : ((cs.take i).filterMap F).length ≤ cs.length := by
    have h1 := List.length_filterMap_le F (cs.take i)
    rw [List.length_take] at h1
    omega
  cases hf : F c with
  | some y =>
    show te σ2 H3 fun y H4 => ∃ acc, H4 Dl = some (.lst acc) ∧ acc.length < sizeLine ∧ CwD G F cs Dl (i + 1) (upd H4 Dl (.lst (acc ++ [y])))
    refine he y hf H3 ((p2.trans e2).trans e3) _ fun H4 e4 => ⟨_, e4 Dl _ (e3 Dl _ (e2 Dl _ p3)), sz_lt (by omega), p1, Ex.mut (((p2.trans e2).trans e3).trans e4) p1, ?_⟩
    rw [upd_same, List.take_add_one, List.getElem?_eq_getElem hlt, hx]
    simp [hf]
  | none =>
    show CwD G F cs Dl (i + 1) H3
    refine ⟨p1, (p2.trans e2).trans e3, ?_⟩
    rw [List.take_add_one, List.getElem?_eq_getElem hlt, hx, e3 Dl _ (e2 Dl _ p3)]
    simp [hf]
theorem el_dT {a : Addr} {xs : List V} {cs : List α} {vs : List Nat} (F : α → Option V) (h : Ev tx σ G (.ref a)) (hx : SqT K G a xs) (hl : xs.length = cs.length) (hz : cs.length ≤ 50000) (ht : ∀ (i : Nat) x c, xs[i]? = some x → cs[i]? = some c → Turn1 g t te vs σ G (fun _ => F c) x) : EvL (tLc (iTup K tx) g t te vs) σ G (cs.filterMap F) := fun H0 e Q q => h H0 e _ fun H1 e1 => ⟨a, rfl, ⟨xs, ex_t (e.trans e1) hx⟩, fun Dl hD =>
  lc_tup (xs := xs) (CwD H1 F cs Dl) ⟨hD, Ex.new hD, upd_same⟩ (fun i H' _ p => ex_t ((e.trans e1).trans p.2.1) hx) (fun i x H' hi p => by
    have hlt : i < cs.length := by rw [← hl]; exact (List.getElem?_eq_some_iff.mp hi).1
    exact cwD_turn (List.getElem?_eq_getElem hlt) hz p (turn_mono (e.trans e1) (ht i x _ hi (List.getElem?_eq_getElem hlt))))
    (fun H' p => q Dl H' (fresh_back e1 p.1) (e1.trans p.2.1) (by rw [p.2.2, List.take_of_length_le (by omega)]))⟩
theorem el_dL {a : Addr} {xs : List V} {cs : List α} {vs : List Nat} (F : α → Option V) (h : Ev tx σ G (.ref a)) (hx : SqL K G a xs) (hl : xs.length = cs.length) (hz : cs.length ≤ 50000) (ht : ∀ (i : Nat) x c, xs[i]? = some x → cs[i]? = some c → Turn1 g t te vs σ G (fun _ => F c) x) : EvL (tLc (iList K tx) g t te vs) σ G (cs.filterMap F) := fun H0 e Q q => h H0 e _ fun H1 e1 => ⟨a, rfl, ⟨xs, ex_l (e.trans e1) hx⟩, fun Dl hD =>
  lc_list (xs := xs) (CwD H1 F cs Dl) ⟨hD, Ex.new hD, upd_same⟩ (fun i H' _ p => ex_l ((e.trans e1).trans p.2.1) hx) (fun i x H' hi p => by
    have hlt : i < cs.length := by rw [← hl]; exact (List.getElem?_eq_some_iff.mp hi).1
    exact cwD_turn (List.getElem?_eq_getElem hlt) hz p (turn_mono (e.trans e1) (ht i x _ hi (List.getElem?_eq_getElem hlt))))
    (fun H' p => q Dl H' (fresh_back e1 p.1) (e1.trans p.2.1) (by rw [p.2.2, List.take_of_length_le (by omega)]))⟩
/-- .. over range(n), the turn by its number -/
theorem el_dR {ta : TA} {vs : List Nat} {n : Int} (F : Nat → Option V) (h : EvA ta σ G [.int n]) (hn : 0 ≤ n ∧ n ≤ 40000) (ht : ∀ i : Nat, (i : Int) < n → Turn1 g t te vs σ G (fun _ => F i) (.int (i : Int))) : EvL (tLc (iRng1 ta) g t te vs) σ G ((List.range n.toNat).filterMap F) := fun H0 e Q q => h H0 e _ fun H1 e1 => ⟨n, rfl, by omega, by omega, fun Dl hD =>
  lc_range (lo := 0) (n := n.toNat) (CwD H1 F (List.range n.toNat) Dl) ⟨hD, Ex.new hD, upd_same⟩ (fun i H' hi p => by
    have e0 : (0 : Int) + (i : Int) = (i : Int) := Int.zero_add _
    rw [e0]
    exact cwD_turn (List.getElem?_range hi) (by rw [List.length_range]; omega) p (turn_mono (e.trans e1) (ht i (by omega))))
    (fun H' p => q Dl H' (fresh_back e1 p.1) (e1.trans p.2.1) (by rw [p.2.2, List.take_of_length_le (by rw [List.length_range]; exact Nat.le_refl _)]))⟩
theorem turn_nameD {j : Nat} {vs : List Nat} {o : Option V} (hw : wipe ((wipe σ vs).set j (some x)) vs = wipe σ vs) (ht : EvT t ((wipe σ vs).set j (some x)) G o.isSome) (he : ∀ y, o = some y → Ev te ((wipe σ vs).set j (some x)) G y) : Turn1 (gName j) t te vs σ G (fun _ => o) x :=
  ⟨_, fun H1 _ Q q => q H1 (Ex.refl H1), hw, ht, he⟩
theorem turn_mapD {j : Nat} {vs : List Nat} (hw : wipe ((wipe σ vs).set j (some x)) vs = wipe σ vs) (he : Ev te ((wipe σ vs).set j (some x)) G y) : Turn1 (gName j) tYes te vs σ G (fun _ => some y) x :=
  turn_nameD hw et_yes fun z hz => by
    obtain rfl := Option.some.inj hz
    exact he
theorem fm_map {β : Type} (F : α → β) (cs : List α) : cs.filterMap (fun c => some (F c)) = cs.map F := by
  induction cs with
  | nil => rfl
  | cons c r ih => rw [List.filterMap_cons, List.map_cons, ih]
end
end GR
namespace GR
open PySem PySem.Spec PyProof.Rows L2 Evl
theorem pgK {X : Cx} {K : PySem.W.Frag} {tg : Expr} {n : Nat} {t : TGs} (h : PG X tg (gTup X.K n t)) (e : X.K = K) : PG X tg (gTup K n t) := e ▸ h
end GR
namespace GR
open PySem PySem.Spec PyProof.Rows L2 Evl
section
variable {K : PySem.W.Frag} {σ : L2.St} {G H H' : Hp} {ta tb tc te tx : TE} {t u : TT} {x y z v : V} {D : Ends} {tu tw tz : TS} {g : TG}
theorem seqIx {k n : Nat} (h : k < n) : seqIndex? (k : Int) n = some k := by
  unfold seqIndex?
  simp
  omega
/-- xs.append(ys.pop(k)) -/
theorem a_appPop1 {l m : Addr} {xs ys : List V} {k : Nat} (e : Ex G H) (ha : Ev ta σ G (.ref l)) (hl : G l = some (.lst xs)) (hb : Ev tb σ G (.ref m)) (hm : G m = some (.lst ys)) (hlm : l ≠ m) (hi : Ev te σ G (.int (k : Int))) (hk : ys[k]? = some y) (hz : xs.length < 100000) (hy : ys.length < 100000)
    (q : ∀ H1, Ex (upd (upd G m (.lst (ys.eraseIdx k))) l (.lst (xs ++ [y]))) H1 → D.nx σ H1) : tDrop (tBM K "list" rAppend ta (tCons (tBM K "list" rPopAt tb (tCons te tNil)) tNil)) D σ H := by
  have hlt := (List.getElem?_eq_some_iff.mp hk).1
  exact ha H e _ fun H1 e1 => ⟨Or.inl ⟨rfl, xs, sq_of (e1 l _ (e l _ hl))⟩, hb H1 (e.trans e1) _ fun H2 e2 => ⟨Or.inl ⟨rfl, ys, sq_of (e2 m _ (e1 m _ (e m _ hm)))⟩, hi H2 ((e.trans e1).trans e2) _ fun H3 e3 =>
    ⟨m, ys, (k : Int), k, y, rfl, rfl, e3 m _ (e2 m _ (e1 m _ (e m _ hm))), by omega, by omega, seqIx hlt, hk, ⟨l, xs, y, rfl, rfl, by rw [upd_ne hlm]; exact e3 l _ (e2 l _ (e1 l _ (e l _ hl))), sz_lt hz, q _ (ex_upd (ex_upd (((e.trans e1).trans e2).trans e3) m _) l _)⟩⟩⟩⟩
/-- list(range(n)) -/
theorem el_listRg {n : Int} (h : Ev ta σ G (.int n)) (hn : 0 ≤ n ∧ n ≤ 100000) : EvL (tLstRg (tRg1 ta)) σ G (rng n) := fun H1 e Q q => h H1 e _ fun H2 e2 => ⟨n, rfl, by
    have e0 : rgV 0 n = rng n := by
      unfold rgV rng
      simp
    show RgOk 0 n ∧ ∀ (q : Addr), H2 q = none → Q (V.ref q) (upd H2 q (HO.lst (rgV 0 n)))
    rw [e0]
    refine ⟨?_, fun p hp => q p _ (fresh_back e2 hp) (e2.trans (Ex.new hp)) upd_same⟩
    unfold RgOk
    refine ⟨by omega, by omega, by omega, ?_⟩
    omega⟩
/-- tuple(xs) of a list, of a new one -/
theorem eu_tupL {p : Addr} {xs : List V} (ha : Ev ta σ G (.ref p)) (h : SqL K G p xs) : EvU (tCB (fun xs H Q => ∃ p ys, xs = [V.ref p] ∧ ((SqL K H p ys ∧ ∀ l, H l = none → Q (.ref l) (upd H l (.tup ys))) ∨ (SqT K H p ys ∧ Q (.ref p) H))) (tCons ta tNil)) σ G xs := fun H1 e Q q =>
  ha H1 e _ fun H2 e2 => ⟨p, xs, rfl, Or.inl ⟨ex_l (e.trans e2) h, fun l hl => q l _ (fresh_back e2 hl) (e2.trans (Ex.new hl)) upd_same⟩⟩
theorem eu_tupN {xs : List V} (ha : EvL ta σ G xs) : EvU (tCB (fun xs H Q => ∃ p ys, xs = [V.ref p] ∧ ((SqL K H p ys ∧ ∀ l, H l = none → Q (.ref l) (upd H l (.tup ys))) ∨ (SqT K H p ys ∧ Q (.ref p) H))) (tCons ta tNil)) σ G xs := fun H1 e Q q =>
  ha H1 e _ fun p H2 hp e2 h2 => ⟨p, xs, rfl, Or.inl ⟨sq_of h2, fun l hl => q l _ (fresh_back e2 hl) (e2.trans (Ex.new hl)) upd_same⟩⟩
theorem ev_min2 {i j : Int} (ha : Ev ta σ G (.int i)) (hb : Ev tb σ G (.int j)) : Ev (tCB (fun xs H Q => ∃ i j, xs = [V.int i, V.int j] ∧ Q (.int (if j < i then j else i)) H) (tCons ta (tCons tb tNil))) σ G (.int (if j < i then j else i)) := fun H1 e Q q =>
  ha H1 e _ fun H2 e2 => hb H2 (e.trans e2) _ fun H3 e3 => ⟨i, j, rfl, q H3 (e2.trans e3)⟩
theorem ev_max2' {i j : Int} (ha : Ev ta σ G (.int i)) (hb : Ev tb σ G (.int j)) : Ev (tCB (fun xs H Q => ∃ i j, xs = [V.int i, V.int j] ∧ Q (.int (if j > i then j else i)) H) (tCons ta (tCons tb tNil))) σ G (.int (if j > i then j else i)) := fun H1 e Q q =>
  ha H1 e _ fun H2 e2 => hb H2 (e.trans e2) _ fun H3 e3 => ⟨i, j, rfl, q H3 (e2.trans e3)⟩
/-- for i in range(a, b) -/
theorem a_forR2 {ta : TA} {j : Nat} {lo n : Int} (e : Ex G H) (h : EvA ta σ G [.int lo, .int n]) (hn : 0 ≤ lo ∧ lo ≤ 100000 ∧ -100000 ≤ n ∧ n ≤ 100000) (Pv : Nat → L2.St → Hp → Prop) (h0 : ∀ H1, Ex G H1 → Pv 0 σ H1)
    (hs : ∀ (i : Nat) σ' H', lo + (i : Int) < n → Pv i σ' H' → tu { D with nx := Pv (i + 1), ct := Pv (i + 1), bk := tz D } (σ'.set j (some (.int (lo + (i : Int))))) H') (hd : ∀ σ' H', Pv (n - lo).toNat σ' H' → tz D σ' H') : tSeq (tFor (iRng2 ta) (gName j) tu) tz D σ H :=
  q_forR2 (fun H1 e1 => h H1 (e.trans e1)) hn Pv (fun H1 e1 => h0 H1 (e.trans e1)) hs hd
/-- a value of which P holds where it stands -/
def EvP (te : TE) (σ : L2.St) (G : Hp) (P : V → Hp → Prop) : Prop := ∀ H1, Ex G H1 → ∀ Q : VK, (∀ v H2, Ex H1 H2 → P v H2 → Q v H2) → te σ H1 Q
theorem a_setP {i : Nat} {P : V → Hp → Prop} (e : Ex G H) (h : EvP te σ G P) (k : ∀ v H1, Ex G H1 → P v H1 → tz D (σ.set i (some v)) H1) : tSeq (tAsg te (gName i)) tz D σ H :=
  h H e _ fun v H1 e1 hP => k v H1 (e.trans e1) hP
theorem ep_call {sp : Sp} {vs : List V} {E : XK} {ta : TA} {P : V → Hp → Prop} (h : EvA ta σ G vs) (hs : ∀ H1, Ex G H1 → ∀ Q : VK, (∀ v H2, Ex H1 H2 → P v H2 → Q v H2) → ∀ E, sp vs H1 Q E) : EvP (tCall sp [] E ta) σ G P := fun H1 e Q q =>
  h H1 e _ fun H2 e2 => by
    rw [List.append_nil]
    exact hs H2 (e.trans e2) Q (fun v H3 e3 hP => q v H3 (e2.trans e3) hP) E
/-- arguments of which P holds -/
def EvAP (ta : TA) (σ : L2.St) (G : Hp) (P : List V → Hp → Prop) : Prop := ∀ H1, Ex G H1 → ∀ Q : List V → Hp → Prop, (∀ vs H2, Ex H1 H2 → P vs H2 → Q vs H2) → ta σ H1 Q
theorem ep_callP {sp : Sp} {E : XK} {ta : TA} {R : List V → Hp → Prop} {P : V → Hp → Prop} (h : EvAP ta σ G R) (hs : ∀ vs H1, Ex G H1 → R vs H1 → ∀ Q : VK, (∀ v H2, Ex H1 H2 → P v H2 → Q v H2) → ∀ E, sp vs H1 Q E) : EvP (tCall sp [] E ta) σ G P := fun H1 e Q q =>
  h H1 e _ fun vs H2 e2 hR => by
    rw [List.append_nil]
    exact hs vs H2 (e.trans e2) hR Q (fun v H3 e3 hP => q v H3 (e2.trans e3) hP) E
theorem eap_of {ta : TA} {vs : List V} (h : EvA ta σ G vs) : EvAP ta σ G (fun ws _ => ws = vs) := fun H1 e Q q => h H1 e _ fun H2 e2 => q vs H2 e2 rfl
theorem a_retP {P : V → Hp → Prop} (e : Ex G H) (h : EvP te σ G P) (k : ∀ v H1, Ex G H1 → P v H1 → D.rt v H1) : tRet te D σ H := h H e _ fun v H1 e1 hP => k v H1 (e.trans e1) hP
end
end GR
namespace GR
open PySem PySem.Spec PyProof.Rows L2 Evl
section
variable {K : PySem.W.Frag} {σ : L2.St} {G H H' : Hp} {ta tb tc te tx : TE} {t u : TT} {x y z v : V} {D : Ends} {tu tw tz : TS} {g : TG}
/-- an if without else, what follows shown once, from M -/
theorem a_whenS {M : L2.St → Hp → Prop} {b : Bool} (e : Ex G H) (h : EvT t σ G b) (h1 : b = true → ∀ H1, Ex G H1 → tu { D with nx := M } σ H1) (h2 : b = false → ∀ H1, Ex G H1 → M σ H1) (k : ∀ σ' H', M σ' H' → tz D σ' H') : tCut (tIfS t tu tNext) tz D σ H :=
  ⟨M, a_if (D := { D with nx := M }) e h h1 h2, k⟩
theorem a_ifS {M : L2.St → Hp → Prop} {b : Bool} (e : Ex G H) (h : EvT t σ G b) (h1 : b = true → ∀ H1, Ex G H1 → tu { D with nx := M } σ H1) (h2 : b = false → ∀ H1, Ex G H1 → tw { D with nx := M } σ H1) (k : ∀ σ' H', M σ' H' → tz D σ' H') : tCut (tIfS t tu tw) tz D σ H :=
  ⟨M, a_if (D := { D with nx := M }) e h h1 h2, k⟩
end
end GR
namespace GR
open PySem PySem.Spec PyProof.Rows L2 Evl
section
variable {K : PySem.W.Frag} {σ : L2.St} {G H H' : Hp} {ta tb tc te tx : TE} {t u : TT} {x y z v : V} {D : Ends} {tu tw tz : TS} {g : TG}
/-- a predicate of a value, of values, that stays when the heap grows -/
def MonoP (P : V → Hp → Prop) : Prop := ∀ v H H', Ex H H' → P v H → P v H'
def MonoR (R : List V → Hp → Prop) : Prop := ∀ v H H', Ex H H' → R v H → R v H'
theorem ep_of (h : Ev te σ G v) : EvP te σ G (fun w _ => w = v) := fun H1 e Q q => h H1 e _ fun H2 e2 => q v H2 e2 rfl
theorem ep_U {xs : List V} (h : EvU te σ G xs) : EvP te σ G (fun w H => ∃ p, w = .ref p ∧ H p = some (.tup xs)) := fun H1 e Q q => h H1 e _ fun p H2 _ e2 h2 => q _ H2 e2 ⟨p, rfl, h2⟩
theorem ep_L {xs : List V} (h : EvL te σ G xs) : EvP te σ G (fun w H => ∃ p, w = .ref p ∧ H p = some (.lst xs)) := fun H1 e Q q => h H1 e _ fun p H2 _ e2 h2 => q _ H2 e2 ⟨p, rfl, h2⟩
theorem mono_v {v : V} : MonoP (fun w _ => w = v) := fun _ _ _ _ h => h
theorem mono_U {xs : List V} : MonoP (fun w H => ∃ p, w = .ref p ∧ H p = some (.tup xs)) := fun _ _ _ e ⟨p, a, b⟩ => ⟨p, a, e _ _ b⟩
theorem mono_L {xs : List V} : MonoP (fun w H => ∃ p, w = .ref p ∧ H p = some (.lst xs)) := fun _ _ _ e ⟨p, a, b⟩ => ⟨p, a, e _ _ b⟩
def RNil : List V → Hp → Prop := fun vs _ => vs = []
def RCons (P : V → Hp → Prop) (R : List V → Hp → Prop) : List V → Hp → Prop := fun vs H => ∃ v r, vs = v :: r ∧ P v H ∧ R r H
theorem mono_nil : MonoR RNil := fun _ _ _ _ h => h
theorem mono_cons {P : V → Hp → Prop} {R : List V → Hp → Prop} (h1 : MonoP P) (h2 : MonoR R) : MonoR (RCons P R) := fun _ _ _ e ⟨v, r, a, b, c⟩ => ⟨v, r, a, h1 _ _ _ e b, h2 _ _ _ e c⟩
theorem eap_nil : EvAP tNil σ G RNil := fun H1 _ _ q => q [] H1 (Ex.refl H1) rfl
theorem eap_cons {tr : TA} {P : V → Hp → Prop} {R : List V → Hp → Prop} (h : EvP te σ G P) (m : MonoP P) (hr : EvAP tr σ G R) : EvAP (tCons te tr) σ G (RCons P R) := fun H1 e Q q =>
  h H1 e _ fun v H2 e2 hP => hr H2 (e.trans e2) _ fun vs H3 e3 hR => q _ H3 (e2.trans e3) ⟨v, vs, rfl, m _ _ _ e3 hP, hR⟩
theorem ep_tup {tr : TA} {R : List V → Hp → Prop} {n : Nat} (h : EvAP tr σ G R) (m : MonoR R) (hn : ∀ vs H, R vs H → vs.length = n) (hz : n ≤ 100000) : EvP (tTup tr) σ G (fun w H => ∃ p vs, w = .ref p ∧ H p = some (.tup vs) ∧ R vs H) := fun H1 e Q q =>
  h H1 e _ fun vs H2 e2 hR => ⟨sz_of (by rw [hn vs H2 hR]; exact hz), fun p hp => q _ _ (e2.trans (Ex.new hp)) ⟨p, vs, rfl, upd_same, m _ _ _ (Ex.new hp) hR⟩⟩
theorem mono_tup {R : List V → Hp → Prop} (m : MonoR R) : MonoP (fun w H => ∃ p vs, w = .ref p ∧ H p = some (.tup vs) ∧ R vs H) := fun _ _ _ e ⟨p, vs, a, b, c⟩ => ⟨p, vs, a, e _ _ b, m _ _ _ e c⟩
theorem len_nil : ∀ vs H, RNil vs H → vs.length = 0 := fun _ _ h => by rw [h]; rfl
theorem len_cons {P : V → Hp → Prop} {R : List V → Hp → Prop} {n : Nat} (h : ∀ vs H, R vs H → vs.length = n) : ∀ vs H, RCons P R vs H → vs.length = n + 1 := fun _ _ ⟨v, r, a, _, c⟩ => by rw [a, List.length_cons, h _ _ c]
/-- xs.append(e), e a value of which P holds -/
theorem a_appP1 {P : V → Hp → Prop} {l : Addr} {xs : List V} (e : Ex G H) (ha : Ev ta σ G (.ref l)) (hl : G l = some (.lst xs)) (h : EvP te σ G P) (hz : xs.length < 100000) (k : ∀ v H1, Ex G H1 → P v H1 → D.nx σ (upd H1 l (.lst (xs ++ [v])))) :
    tDrop (tBM K "list" rAppend ta (tCons te tNil)) D σ H :=
  ha H e _ fun H1 e1 => ⟨Or.inl ⟨rfl, xs, sq_of (e1 l _ (e l _ hl))⟩, h H1 (e.trans e1) _ fun v H2 e2 hP => ⟨l, xs, v, rfl, rfl, e2 l _ (e1 l _ (e l _ hl)), sz_lt hz, k v H2 ((e.trans e1).trans e2) hP⟩⟩
theorem a_appP {P : V → Hp → Prop} {l : Addr} {xs : List V} (e : Ex G H) (ha : Ev ta σ G (.ref l)) (hl : G l = some (.lst xs)) (h : EvP te σ G P) (hz : xs.length < 100000) (k : ∀ v H1, Ex G H1 → P v H1 → tz D σ (upd H1 l (.lst (xs ++ [v])))) :
    tSeq (tDrop (tBM K "list" rAppend ta (tCons te tNil))) tz D σ H := a_appP1 (D := { D with nx := tz D }) e ha hl h hz k
/-- tuples stay when a list changes -/
theorem st_upd {l a : Addr} {xs ys : List V} {o : HO} (h : SqT K H a xs) (hl : H l = some (.lst ys)) : SqT K (upd H l o) a xs := by
  rcases h with (h | ⟨ob, h⟩) | h
  · exact .inl (.inl (by rw [upd_ne (ne_of h hl (by intro z; cases z))]; exact h))
  · exact .inl (.inr ⟨ob, by rw [upd_ne (ne_of h hl (by intro z; cases z))]; exact h⟩)
  · exact .inr h
theorem a_retP' {P : V → Hp → Prop} (h : EvP te σ H P) (k : ∀ v H1, Ex H H1 → P v H1 → D.rt v H1) : tRet te D σ H := a_retP (Ex.refl H) h k
end
end GR
namespace GR
open PySem PySem.Spec PyProof.Rows L2 Evl
section
variable {K : PySem.W.Frag} {σ : L2.St} {G H H' : Hp} {ta tb tc te tx : TE} {t u : TT} {x y z v : V} {D : Ends} {tu tw tz : TS} {g : TG}
/-- f(..) as a statement in a try's body -/
theorem a_callX1S {sp : Sp} {E : L2.St → XK} {ta : TA} {vs : List V} (e : Ex G H) (h : EvA ta σ G vs) (k : ∀ H1, Ex G H1 → sp vs H1 (fun _ H2 => D.nx σ H2) (E σ)) : tDrop (tCallS sp E ta) D σ H :=
  h H e _ fun H1 e1 => k H1 (e.trans e1)
theorem a_callXS {sp : Sp} {E : L2.St → XK} {ta : TA} {vs : List V} (e : Ex G H) (h : EvA ta σ G vs) (k : ∀ H1, Ex G H1 → sp vs H1 (fun _ H2 => tz D σ H2) (E σ)) : tSeq (tDrop (tCallS sp E ta)) tz D σ H :=
  h H e _ fun H1 e1 => k H1 (e.trans e1)
end
end GR
namespace GR
open PySem PySem.Spec PyProof.Rows L2 Evl
section
variable {K : PySem.W.Frag} {σ : L2.St} {G H H' : Hp} {ta tb tc te tx : TE} {t u : TT} {x y z v : V} {D : Ends} {tu tw tz : TS} {g : TG}
theorem ep_lst {tr : TA} {R : List V → Hp → Prop} {n : Nat} (h : EvAP tr σ G R) (m : MonoR R) (hn : ∀ vs H, R vs H → vs.length = n) (hz : n ≤ 100000) : EvP (tLst tr) σ G (fun w H => ∃ p vs, w = .ref p ∧ H p = some (.lst vs) ∧ R vs H) := fun H1 e Q q =>
  h H1 e _ fun vs H2 e2 hR => ⟨sz_of (by rw [hn vs H2 hR]; exact hz), fun p hp => q _ _ (e2.trans (Ex.new hp)) ⟨p, vs, rfl, upd_same, m _ _ _ (Ex.new hp) hR⟩⟩
theorem ints_ne {ns : List Int} {a : Addr} {r : List V} : HO.lst (ns.map V.int) ≠ HO.lst (V.ref a :: r) := fun h => by
  injection h with h
  cases ns with
  | nil => cases h
  | cons n s =>
    rw [List.map_cons] at h
    injection h with h1 h2
    cases h1
end
end GR
namespace GR
open PySem PySem.Spec PyProof.Rows L2 Evl
section
variable {K : PySem.W.Frag} {σ : L2.St} {G H H' : Hp} {ta tb tc te tx : TE} {t u : TT} {x y z v : V} {D : Ends} {tu tw tz : TS} {g : TG}
/-- a new object of which P holds -/
def EvF (te : TE) (σ : L2.St) (G : Hp) (P : Addr → Hp → Prop) : Prop := ∀ H1, Ex G H1 → ∀ Q : VK, (∀ p H2, H1 p = none → Ex H1 H2 → P p H2 → Q (.ref p) H2) → te σ H1 Q
theorem a_setF {i : Nat} {P : Addr → Hp → Prop} (e : Ex G H) (h : EvF te σ G P) (k : ∀ p H1, G p = none → Ex G H1 → P p H1 → tz D (σ.set i (some (.ref p))) H1) : tSeq (tAsg te (gName i)) tz D σ H :=
  h H e _ fun p H1 hp e1 hP => k p H1 (fresh_back e hp) (e.trans e1) hP
theorem ef_lst {tr : TA} {R : List V → Hp → Prop} {n : Nat} (h : EvAP tr σ G R) (m : MonoR R) (hn : ∀ vs H, R vs H → vs.length = n) (hz : n ≤ 100000) : EvF (tLst tr) σ G (fun p H => ∃ vs, H p = some (.lst vs) ∧ R vs H) := fun H1 e Q q =>
  h H1 e _ fun vs H2 e2 hR => ⟨sz_of (by rw [hn vs H2 hR]; exact hz), fun p hp => q _ _ (fresh_back e2 hp) (e2.trans (Ex.new hp)) ⟨vs, upd_same, m _ _ _ (Ex.new hp) hR⟩⟩
theorem ef_tup {tr : TA} {R : List V → Hp → Prop} {n : Nat} (h : EvAP tr σ G R) (m : MonoR R) (hn : ∀ vs H, R vs H → vs.length = n) (hz : n ≤ 100000) : EvF (tTup tr) σ G (fun p H => ∃ vs, H p = some (.tup vs) ∧ R vs H) := fun H1 e Q q =>
  h H1 e _ fun vs H2 e2 hR => ⟨sz_of (by rw [hn vs H2 hR]; exact hz), fun p hp => q _ _ (fresh_back e2 hp) (e2.trans (Ex.new hp)) ⟨vs, upd_same, m _ _ _ (Ex.new hp) hR⟩⟩
theorem ne_new {p q : Addr} {o : HO} (h : G q = some o) (hp : G p = none) : q ≠ p := ne_of_none h hp
/-- two new lists compared -/
theorem ev_opNL {r : R2} {xs : List V} (ha : Ev ta σ G x) (hb : EvL tb σ G xs) (hr : ∀ p H1, H1 p = some (.lst xs) → Ex G H1 → RV r x (.ref p) H1 z) : Ev (tOp r ta tb) σ G z := ev_opL ha hb hr
theorem ev_opPL {r : R2} {P : V → Hp → Prop} (ha : Ev ta σ G x) (hb : EvP tb σ G P) (hr : ∀ w H1, P w H1 → Ex G H1 → RV r x w H1 z) : Ev (tOp r ta tb) σ G z := fun H1 e Q q =>
  ha H1 e _ fun H2 e2 => hb H2 (e.trans e2) _ fun w H3 e3 hP => hr w H3 hP ((e.trans e2).trans e3) H3 (Ex.refl H3) Q fun H4 e4 => q H4 ((e2.trans e3).trans e4)
end
end GR
namespace GR
open PySem PySem.Spec PyProof.Rows L2 Evl
section
variable {K : PySem.W.Frag} {σ : L2.St} {G H H' : Hp} {ta tb tc te tx : TE} {t u : TT} {x y z v : V} {D : Ends} {tu tw tz : TS} {g : TG}
/-- xs[i] = e, i of any sign, e a value of which P holds -/
theorem a_setItP {P : V → Hp → Prop} {l : Addr} {xs : List V} {i : Int} {k : Nat} (e : Ex G H) (h : EvP te σ G P) (ho : Ev ta σ G (.ref l)) (hl : G l = some (.lst xs)) (hi : Ev tb σ G (.int i)) (hk : ixN xs.length i = some k) (q : ∀ v H1, Ex G H1 → P v H1 → D.nx σ (upd H1 l (.lst (xs.set k v)))) (mP : MonoP P) :
    tAsg te (gSub ta tb rSetL) D σ H := h H e _ fun v H1 e1 hP => ho H1 (e.trans e1) _ fun H2 e2 => hi H2 ((e.trans e1).trans e2) _ fun H3 e3 =>
  ⟨l, xs, i, k, rfl, rfl, (((e.trans e1).trans e2).trans e3) l _ hl, hk, q v H3 (((e.trans e1).trans e2).trans e3) (mP _ _ _ (e2.trans e3) hP)⟩
end
end GR

namespace GR
open PySem PySem.Spec PyProof.Rows L2 Evl
def top (i : Nat) : Stmt := PySem.Challenge.pw_gatesread_k01_split_tokens.main.body.getD i (.Pass ⟨0, 0, 0, 0⟩)
abbrev s_split_tokens : Stmt := top 4
abbrev s_token_end : Stmt := top 5
abbrev s_is_run_character : Stmt := top 6
abbrev s_is_good : Stmt := top 7
abbrev s_law_parts : Stmt := top 9
abbrev s_law_is_integer : Stmt := top 10
abbrev s_law_run : Stmt := top 11
abbrev s_law_token : Stmt := top 12
abbrev s_law_in_run : Stmt := top 13
abbrev s_law_good : Stmt := top 14
abbrev s_law_char : Stmt := top 15
abbrev s_law_pairs : Stmt := top 16
abbrev s_law_same : Stmt := top 17
abbrev s_law : Stmt := top 18
theorem sc_split_tokens : FnScope ["text", "tokens", "place", "end"] ["text"] (defScope s_split_tokens) := ⟨rfl, rfl, rfl, by decide +kernel, rfl, by decide +kernel, by decide +kernel⟩
theorem sc_token_end : FnScope ["text", "place", "end"] ["text", "place"] (defScope s_token_end) := ⟨rfl, rfl, rfl, by decide +kernel, rfl, by decide +kernel, by decide +kernel⟩
theorem sc_is_run_character : FnScope ["character"] ["character"] (defScope s_is_run_character) := ⟨rfl, rfl, rfl, by decide +kernel, rfl, by decide +kernel, by decide +kernel⟩
theorem sc_is_good : FnScope ["token"] ["token"] (defScope s_is_good) := ⟨rfl, rfl, rfl, by decide +kernel, rfl, by decide +kernel, by decide +kernel⟩
theorem sc_law_parts : FnScope ["cell", "sizes", "parts", "rest", "k", "mixed"] ["cell", "sizes"] (defScope s_law_parts) := ⟨rfl, rfl, rfl, by decide +kernel, rfl, by decide +kernel, by decide +kernel⟩
theorem sc_law_is_integer : FnScope ["actual"] ["actual"] (defScope s_law_is_integer) := ⟨rfl, rfl, rfl, by decide +kernel, rfl, by decide +kernel, by decide +kernel⟩
theorem sc_law_run : FnScope ["code", "step", "length", "letters", "run", "k"] ["code", "step", "length"] (defScope s_law_run) := ⟨rfl, rfl, rfl, by decide +kernel, rfl, by decide +kernel, by decide +kernel⟩
theorem sc_law_token : FnScope ["parts", "signs"] ["parts"] (defScope s_law_token) := ⟨rfl, rfl, rfl, by decide +kernel, rfl, by decide +kernel, by decide +kernel⟩
theorem sc_law_in_run : FnScope ["char"] ["char"] (defScope s_law_in_run) := ⟨rfl, rfl, rfl, by decide +kernel, rfl, by decide +kernel, by decide +kernel⟩
theorem sc_law_good : FnScope ["token"] ["token"] (defScope s_law_good) := ⟨rfl, rfl, rfl, by decide +kernel, rfl, by decide +kernel, by decide +kernel⟩
theorem sc_law_char : FnScope ["number", "chars"] ["number"] (defScope s_law_char) := ⟨rfl, rfl, rfl, by decide +kernel, rfl, by decide +kernel, by decide +kernel⟩
theorem sc_law_pairs : FnScope ["text", "pairs", "k", "joined"] ["text"] (defScope s_law_pairs) := ⟨rfl, rfl, rfl, by decide +kernel, rfl, by decide +kernel, by decide +kernel⟩
theorem sc_law_same : FnScope ["actual", "expected", "k", "pair"] ["actual", "expected"] (defScope s_law_same) := ⟨rfl, rfl, rfl, by decide +kernel, rfl, by decide +kernel, by decide +kernel⟩
theorem sc_law : FnScope ["script", "blanks", "text", "raw", "expected", "cell", "parts", "token", "blank", "pair", "actual"] ["script"] (defScope s_law) := ⟨rfl, rfl, rfl, by decide +kernel, rfl, by decide +kernel, by decide +kernel⟩
structure A where
  f_split_tokens : Addr
  d_split_tokens : FuncData
  f_token_end : Addr
  d_token_end : FuncData
  f_is_run_character : Addr
  d_is_run_character : FuncData
  f_is_good : Addr
  d_is_good : FuncData
  f_law_parts : Addr
  d_law_parts : FuncData
  f_law_is_integer : Addr
  d_law_is_integer : FuncData
  f_law_run : Addr
  d_law_run : FuncData
  f_law_token : Addr
  d_law_token : FuncData
  f_law_in_run : Addr
  d_law_in_run : FuncData
  f_law_good : Addr
  d_law_good : FuncData
  f_law_char : Addr
  d_law_char : FuncData
  f_law_pairs : Addr
  d_law_pairs : FuncData
  f_law_same : Addr
  d_law_same : FuncData
  f_law : Addr
  d_law : FuncData
structure Top (K : PySem.W.Frag) (mg : Str → Option Value) (w : World) (a : A) : Prop where
  F_split_tokens : Fun K "split_tokens" "split_tokens" s_split_tokens a.f_split_tokens a.d_split_tokens
  b_split_tokens : Binds K a.d_split_tokens ["text"] []
  g_split_tokens : mg "split_tokens" = some (.ref a.f_split_tokens)
  F_token_end : Fun K "token_end" "token_end" s_token_end a.f_token_end a.d_token_end
  b_token_end : Binds K a.d_token_end ["text", "place"] []
  g_token_end : mg "token_end" = some (.ref a.f_token_end)
  F_is_run_character : Fun K "is_run_character" "is_run_character" s_is_run_character a.f_is_run_character a.d_is_run_character
  b_is_run_character : Binds K a.d_is_run_character ["character"] []
  g_is_run_character : mg "is_run_character" = some (.ref a.f_is_run_character)
  F_is_good : Fun K "is_good" "is_good" s_is_good a.f_is_good a.d_is_good
  b_is_good : Binds K a.d_is_good ["token"] []
  g_is_good : mg "is_good" = some (.ref a.f_is_good)
  F_law_parts : Fun K "_law_parts" "_law_parts" s_law_parts a.f_law_parts a.d_law_parts
  b_law_parts : Binds K a.d_law_parts ["cell", "sizes"] []
  g_law_parts : mg "_law_parts" = some (.ref a.f_law_parts)
  F_law_is_integer : Fun K "_law_is_integer" "_law_is_integer" s_law_is_integer a.f_law_is_integer a.d_law_is_integer
  b_law_is_integer : Binds K a.d_law_is_integer ["actual"] []
  g_law_is_integer : mg "_law_is_integer" = some (.ref a.f_law_is_integer)
  F_law_run : Fun K "_law_run" "_law_run" s_law_run a.f_law_run a.d_law_run
  b_law_run : Binds K a.d_law_run ["code", "step", "length"] []
  g_law_run : mg "_law_run" = some (.ref a.f_law_run)
  F_law_token : Fun K "_law_token" "_law_token" s_law_token a.f_law_token a.d_law_token
  b_law_token : Binds K a.d_law_token ["parts"] []
  g_law_token : mg "_law_token" = some (.ref a.f_law_token)
  F_law_in_run : Fun K "_law_in_run" "_law_in_run" s_law_in_run a.f_law_in_run a.d_law_in_run
  b_law_in_run : Binds K a.d_law_in_run ["char"] []
  g_law_in_run : mg "_law_in_run" = some (.ref a.f_law_in_run)
  F_law_good : Fun K "_law_good" "_law_good" s_law_good a.f_law_good a.d_law_good
  b_law_good : Binds K a.d_law_good ["token"] []
  g_law_good : mg "_law_good" = some (.ref a.f_law_good)
  F_law_char : Fun K "_law_char" "_law_char" s_law_char a.f_law_char a.d_law_char
  b_law_char : Binds K a.d_law_char ["number"] []
  g_law_char : mg "_law_char" = some (.ref a.f_law_char)
  F_law_pairs : Fun K "_law_pairs" "_law_pairs" s_law_pairs a.f_law_pairs a.d_law_pairs
  b_law_pairs : Binds K a.d_law_pairs ["text"] []
  g_law_pairs : mg "_law_pairs" = some (.ref a.f_law_pairs)
  F_law_same : Fun K "_law_same" "_law_same" s_law_same a.f_law_same a.d_law_same
  b_law_same : Binds K a.d_law_same ["actual", "expected"] []
  g_law_same : mg "_law_same" = some (.ref a.f_law_same)
  F_law : Fun K "law" "law" s_law a.f_law a.d_law
  b_law : Binds K a.d_law ["script"] []
  g_law : mg "law" = some (.ref a.f_law)
  z_bool : mg "bool" = none
  z_int : mg "int" = none
  z_isinstance : mg "isinstance" = none
  z_len : mg "len" = none
  z_list : mg "list" = none
  z_max : mg "max" = none
  z_range : mg "range" = none
  z_str : mg "str" = none
  z_tuple : mg "tuple" = none
  c_LETTERS : ∃ u, mg "LETTERS" = some u ∧ RelV (.str "abcdefghijklmnopqrstuvwxyz") u
  c_DIGITS : ∃ u, mg "DIGITS" = some u ∧ RelV (.str "0123456789") u
  c_LONGEST_WORD : ∃ u, mg "LONGEST_WORD" = some u ∧ RelV (.int 8) u
section
variable {P : Program} {w : World} {K : PySem.W.Frag} {mg : Str → Option Value} {base : Heap} {a : A}
/-! ### evaluation by the reading's head -/
local macro_rules | `(tactic| walk_at "sq") => `(tactic| first
  | assumption
  | exact sq_of upd_same | exact st_of upd_same
  | exact sq_of (by assumption) | exact st_of (by assumption)
  | exact ex_l (Ex.new (by assumption)) (by assumption) | exact ex_t (Ex.new (by assumption)) (by assumption)
  | exact ex_l (by assumption) (by assumption) | exact ex_t (by assumption) (by assumption))
local macro_rules | `(tactic| walk_at "rv") => `(tactic| first
  | exact rv_I0
  | exact rv_eq rfl | exact rv_ne rfl
  | exact rv_ixL (by walk_at "sq") (by first | assumption | rfl)
  | exact rv_ixT (by walk_at "sq") (by first | assumption | rfl)
  | exact rv_I (by first | assumption | decide | omega | exact ⟨by decide, by decide, by decide⟩ | exact .inl ⟨by omega, by omega⟩ | exact .inr ⟨by omega, by omega⟩))
local macro_rules | `(tactic| walk_at "ev") => `(tactic| first
  | exact ev_var rfl
  | exact ev_c
  | exact ea_nil
  | (apply ea_cons; (walk_at "ev"); (walk_at "ev"))
  | (apply ev_op; (walk_at "ev"); (walk_at "ev"); (walk_at "rv"))
  | (apply ev_un; (walk_at "ev"); exact ru_neg)
  | (apply ev_int1; (walk_at "ev"))
  | (apply ev_lenS; (walk_at "ev"); (walk_at "sq"))
  | (apply ev_lenT; (walk_at "ev"); (walk_at "sq"))
  | (apply et_test; (walk_at "ev"))
  | (apply et_B; (walk_at "ev"))
  | (apply et_not; (walk_at "ev"))
  | (apply ev_notV; (walk_at "ev"))
  | (apply el_lst; (walk_at "ev"); decide)
  | (apply eu_tup; (walk_at "ev"); decide))

/-! ### _law_parts -/
def sp_law_parts (K : PySem.W.Frag) : Sp := fun vs H Q _ => ∃ (c : Int) (l : Addr) (sizes : List Int), vs = [.int c, .ref l] ∧ SqL K H l (sizes.map V.int) ∧ sizes.length ≤ 1000 ∧ (∀ s ∈ sizes, 0 < s ∧ s ≤ 1000000000) ∧ ∀ ns, Draw ns sizes → RetL (ns.map V.int) H Q
theorem draw_step {ns sizes : List Int} {i : Nat} {x : Int} (hl : ns.length = i) (h : ∀ k, k < i → 0 ≤ ns.getD k 0 ∧ ns.getD k 0 < sizes.getD k 0) (h0 : 0 ≤ x) (h1 : x < sizes.getD i 0) :
    (ns ++ [x]).length = i + 1 ∧ ∀ k, k < i + 1 → 0 ≤ (ns ++ [x]).getD k 0 ∧ (ns ++ [x]).getD k 0 < sizes.getD k 0 := by
  refine ⟨by rw [List.length_append, hl]; rfl, fun k hk => ?_⟩
  by_cases q : k < i
  · have e : (ns ++ [x]).getD k 0 = ns.getD k 0 := by
      rw [List.getD_eq_getElem?_getD, List.getElem?_append_left (by omega), ← List.getD_eq_getElem?_getD]
    rw [e]
    exact h k q
  · have e2 : k = i := by omega
    subst e2
    have e : (ns ++ [x]).getD k 0 = x := by
      rw [List.getD_eq_getElem?_getD, List.getElem?_append_right (by omega), hl, Nat.sub_self]
      rfl
    rw [e]
    exact ⟨h0, h1⟩
theorem ok_law_parts (T : Top K mg w a) : FnOk P w K mg base CX0 1 a.f_law_parts a.d_law_parts ["cell", "sizes"] (sp_law_parts K) := by
  refine T.F_law_parts.ok sc_law_parts (fun vs H Q E h => ?_) (fun cdv A outer s H vs Q E hr h => ?_)
  · obtain ⟨c, l, sizes, rfl, _⟩ := h
    rfl
  · obtain ⟨c, l, sizes, rfl, hS, hlen, hpos, q⟩ := h
    refine ⟨_, (pss_cons (ps_set (i := 2) sc_law_parts.nd rfl (Or.inl rfl) (pe_lst pa_nil))
      (pss_cons (ps_set (i := 3) sc_law_parts.nd rfl (Or.inl rfl) (pe_op op_sub (pv 0) (pe_op op_pow pe_int pe_int)))
      (pss_cons (ps_for PassesOwn.never rfl (pi_range1 rfl T.z_range (pa_cons (pe_callB call_len_seq (by rfl) T.z_len (by decide +kernel) (pa_cons (pv 1) pa_nil)) pa_nil)) (pg_name (i := 4) sc_law_parts.nd rfl (Or.inl rfl))
      (pss_one (ps_if (pt_cmpR op_ge (pv 3) pe_int (nomark _))
      (pss_cons (ps_expr (pe_bm PySem.F.plainAttrs_list PySem.F.slot_list_append PySem.F.type_list_append mt_append (pv 2) (pa_cons (pe_op op_mod (pe_callTy call_int1 (by rfl) T.z_int (by decide +kernel) (pa_cons (pv 3) pa_nil)) (pe_ix ix_list (pv 1) (pv 4) (fun _ _ => rfl))) pa_nil)))
      (pss_one (ps_set (i := 3) sc_law_parts.nd rfl (Or.inl rfl) (pe_op op_fdivW (pv 3) (pe_ix ix_list (pv 1) (pv 4) (fun _ _ => rfl))))))
      (pss_cons (ps_set (i := 5) sc_law_parts.nd rfl (Or.inl rfl) (pe_op op_mod (pe_callTy call_int1 (by rfl) T.z_int (by decide +kernel) (pa_cons (pe_op op_add (pe_op op_add (pe_op op_mul (pv 0) pe_int) (pe_op op_mul (pv 4) pe_int)) pe_int) pa_nil)) pe_int))
      (pss_cons (ps_set (i := 5) sc_law_parts.nd rfl (Or.inl rfl) (pe_op op_mod (pe_callTy call_int1 (by rfl) T.z_int (by decide +kernel) (pa_cons (pe_op op_add (pe_op op_add (pe_op op_mul (pv 5) (pv 5)) (pe_op op_mul pe_int (pv 4))) pe_int) pa_nil)) pe_int))
      (pss_one (ps_expr (pe_bm PySem.F.plainAttrs_list PySem.F.slot_list_append PySem.F.type_list_append mt_append (pv 2) (pa_cons (pe_op op_mod (pe_callTy call_int1 (by rfl) T.z_int (by decide +kernel) (pa_cons (pv 5) pa_nil)) (pe_ix ix_list (pv 1) (pv 4) (fun _ _ => rfl))) pa_nil)))))))))
      (pss_one (ps_ret (pv 2)))))), ?_⟩
    refine a_setL (Ex.refl H) (by walk_at "ev") (fun p H1 hp e1 => ?_)
    refine a_set e1 (by walk_at "ev") (fun H2 e2 => ?_)
    refine a_forR (n := (sizes.length : Int)) e2 (ea_cons (ev_is (ev_lenS (ev_var rfl) (ex_l (Ex.new hp) hS)) (by rw [List.length_map])) ea_nil) ⟨by omega, by omega⟩
      (fun i σ' H' => ∃ (rest : Int) (y m : Option V) (ns : List Int), σ' = [some (.int c), some (.ref l), some (.ref p), some (.int rest), y, m] ∧ ns.length = i ∧ (∀ k, k < i → 0 ≤ ns.getD k 0 ∧ ns.getD k 0 < sizes.getD k 0) ∧ Ex (upd H p (.lst (ns.map V.int))) H')
      (fun H3 e3 => ⟨_, _, _, [], rfl, rfl, fun k hk => absurd hk (Nat.not_lt_zero k), e3⟩) ?_ ?_
    · rintro i σ' H' hi ⟨rest, y, m, ns, rfl, hl, hd, e3⟩
      have hil : i < sizes.length := by omega
      have hsz : 0 < sizes.getD i 0 ∧ sizes.getD i 0 ≤ 1000000000 := by
        refine hpos _ ?_
        rw [List.getD_eq_getElem?_getD, List.getElem?_eq_getElem hil]
        exact List.getElem_mem hil
      have hSi : SqL K (upd H p (.lst (ns.map V.int))) l (sizes.map V.int) := ex_l (Ex.new hp) hS
      have hz : (ns.map V.int).length < 100000 := by rw [List.length_map, hl]; omega
      refine a_if e3 (et_test (ev_op (ev_var rfl) ev_c rv_I0)) (fun hb H4 e4 => ?_) (fun hb H4 e4 => ?_)
      · refine a_app (v := .int (rest % sizes.getD i 0)) e4 (ev_var rfl) upd_same (ev_op (ev_int1 (ev_var rfl)) (ev_op (ev_var rfl) (ev_var rfl) (rv_ixL hSi (at_map hil))) (rv_I hsz.1)) hz (fun H5 e5 => ?_)
        rw [upd_upd] at e5
        refine a_set1 e5 (ev_op (ev_var rfl) (ev_op (ev_var rfl) (ev_var rfl) (rv_ixL (ex_l (Ex.new hp) hS) (at_map hil))) (rv_I (wide_div (b := 64) hsz.1 (by omega) (by decide) (by decide)))) (fun H6 e6 => ?_)
        obtain ⟨g1, g2⟩ := draw_step hl hd (Int.emod_nonneg rest (by omega)) (Int.emod_lt_of_pos rest hsz.1)
        refine ⟨_, _, _, ns ++ [rest % sizes.getD i 0], rfl, g1, g2, ?_⟩
        rw [List.map_append]
        exact e6
      · refine a_set (v := .int ((c * 48271 + (i : Int) * 69621 + 11) % 2147483647)) e4 (ev_op (ev_int1 (ev_op (ev_op (ev_op (ev_var rfl) ev_c (rv_I (.inr ⟨by decide, by decide⟩))) (ev_op (ev_var rfl) ev_c (rv_I (.inr ⟨by decide, by decide⟩))) rv_I0) ev_c rv_I0)) ev_c (rv_I (by decide))) (fun H5 e5 => ?_)
        have m1 : 0 ≤ (c * 48271 + (i : Int) * 69621 + 11) % 2147483647 := Int.emod_nonneg _ (by decide)
        have m2 : (c * 48271 + (i : Int) * 69621 + 11) % 2147483647 < 2147483647 := Int.emod_lt_of_pos _ (by decide)
        generalize (c * 48271 + (i : Int) * 69621 + 11) % 2147483647 = mx at m1 m2 ⊢
        refine a_set (v := .int ((mx * mx + 16807 * (i : Int) + 5) % 998244353)) e5 (ev_op (ev_int1 (ev_op (ev_op (ev_op (ev_var rfl) (ev_var rfl) (rv_I (.inl ⟨by omega, by omega⟩))) (ev_op ev_c (ev_var rfl) (rv_I (.inl ⟨by decide, by decide⟩))) rv_I0) ev_c rv_I0)) ev_c (rv_I (by decide))) (fun H6 e6 => ?_)
        generalize (mx * mx + 16807 * (i : Int) + 5) % 998244353 = my
        refine a_app1 (v := .int (my % sizes.getD i 0)) e6 (ev_var rfl) upd_same (ev_op (ev_int1 (ev_var rfl)) (ev_op (ev_var rfl) (ev_var rfl) (rv_ixL hSi (at_map hil))) (rv_I hsz.1)) hz (fun H7 e7 => ?_)
        rw [upd_upd] at e7
        obtain ⟨g1, g2⟩ := draw_step hl hd (Int.emod_nonneg my (by omega)) (Int.emod_lt_of_pos my hsz.1)
        refine ⟨_, _, _, ns ++ [my % sizes.getD i 0], rfl, g1, g2, ?_⟩
        rw [List.map_append]
        exact e7
    · rintro σ' H' ⟨rest, y, m, ns, rfl, hl, hd, e3⟩
      have en : ns.length = sizes.length := by rw [hl]; exact Int.toNat_natCast _
      refine a_ret e3 (ev_var rfl) (fun H4 e4 => ?_)
      exact q ns ⟨en, fun k hk => hd k (by omega)⟩ p H4 hp (fun b o z => e4 b o ((Ex.new hp) b o z)) (e4 p _ upd_same)

def sp_law_is_integer (K : PySem.W.Frag) : Sp := fun vs H Q _ => ∃ (i : Int), vs = [.int i] ∧ RetV (.bl true) H Q
theorem ok_law_is_integer (T : Top K mg w a) : FnOk P w K mg base CX0 1 a.f_law_is_integer a.d_law_is_integer ["actual"] (sp_law_is_integer K) := by
  refine T.F_law_is_integer.ok sc_law_is_integer (fun vs H Q E h => ?_) (fun cdv A outer s H vs Q E hr h => ?_)
  · obtain ⟨i, rfl, _⟩ := h
    rfl
  · obtain ⟨i, rfl, q⟩ := h
    refine ⟨_, (pss_one (ps_ret (pe_and (pe_callB call_isi (by rfl) T.z_isinstance (by decide +kernel) (pa_cons (pv 0) (pa_cons (pe_bltn (v := .ty "int") (by rfl) T.z_int (by decide +kernel) rfl) pa_nil))) (pe_one (pe_not (pe_callB call_isi (by rfl) T.z_isinstance (by decide +kernel) (pa_cons (pv 0) (pa_cons (pe_bltn (v := .ty "bool") (by rfl) T.z_bool (by decide +kernel) rfl) pa_nil)))))))), ?_⟩
    exact a_ret (Ex.refl H) (ev_andV (ev_isiInt (ev_var rfl)) fun _ => ev_notV (ev_isiIntB (ev_var rfl))) q

/-! ### bits -/
def Bits (bs : List Int) : Prop := ∀ b ∈ bs, b = 0 ∨ b = 1
def bmin (bs : List Int) : Int := if (0 : Int) ∈ bs then 0 else 1
def bmax (bs : List Int) : Int := if (1 : Int) ∈ bs then 1 else 0
theorem bmin_mem {bs : List Int} (h : Bits bs) (h0 : bs ≠ []) : bmin bs ∈ bs ∧ ∀ y ∈ bs, bmin bs ≤ y := by
  unfold bmin
  by_cases q : (0 : Int) ∈ bs
  · rw [if_pos q]
    refine ⟨q, fun y hy => ?_⟩
    rcases h y hy with e | e <;> omega
  · rw [if_neg q]
    have a : ∀ y ∈ bs, y = 1 := fun y hy => by
      rcases h y hy with e | e
      · rw [e] at hy
        exact absurd hy q
      · exact e
    refine ⟨?_, fun y hy => by rw [a y hy]; omega⟩
    cases bs with
    | nil => exact absurd rfl h0
    | cons x r => rw [← a x List.mem_cons_self]; exact List.mem_cons_self
theorem bmax_mem {bs : List Int} (h : Bits bs) (h0 : bs ≠ []) : bmax bs ∈ bs ∧ ∀ y ∈ bs, y ≤ bmax bs := by
  unfold bmax
  by_cases q : (1 : Int) ∈ bs
  · rw [if_pos q]
    refine ⟨q, fun y hy => ?_⟩
    rcases h y hy with e | e <;> omega
  · rw [if_neg q]
    have a : ∀ y ∈ bs, y = 0 := fun y hy => by
      rcases h y hy with e | e
      · exact e
      · rw [e] at hy
        exact absurd hy q
    refine ⟨?_, fun y hy => by rw [a y hy]; omega⟩
    cases bs with
    | nil => exact absurd rfl h0
    | cons x r => rw [← a x List.mem_cons_self]; exact List.mem_cons_self
theorem bits_sum {bs : List Int} (h : Bits bs) : 0 ≤ bs.sum ∧ bs.sum ≤ bs.length ∧ ((1 : Int) ∈ bs ↔ bs.sum ≠ 0) ∧ ((0 : Int) ∈ bs ↔ bs.sum < bs.length) := by
  induction bs with
  | nil => simp
  | cons b r ih =>
    obtain ⟨i1, i2, i3, i4⟩ := ih fun x hx => h x (List.mem_cons_of_mem _ hx)
    rw [List.sum_cons, List.length_cons, List.mem_cons, List.mem_cons, i3, i4]
    rcases h b List.mem_cons_self with e | e <;> subst e <;> refine ⟨by omega, by omega, ?_, ?_⟩ <;> omega
theorem bmin_sum {bs : List Int} (h : Bits bs) : bmin bs = if bs.sum = (bs.length : Int) then 1 else 0 := by
  obtain ⟨a, b, c, d⟩ := bits_sum h
  unfold bmin
  by_cases q : (0 : Int) ∈ bs
  · rw [if_pos q, if_neg (by have := d.mp q; omega)]
  · rw [if_neg q, if_pos (by have : ¬ bs.sum < bs.length := fun z => q (d.mpr z); omega)]
theorem bmax_sum {bs : List Int} (h : Bits bs) : bmax bs = if 0 < bs.sum then 1 else 0 := by
  obtain ⟨a, b, c, d⟩ := bits_sum h
  unfold bmax
  by_cases q : (1 : Int) ∈ bs
  · rw [if_pos q, if_pos (by have := c.mp q; omega)]
  · rw [if_neg q, if_neg (fun z => q (c.mpr (by omega)))]
theorem dec_str {a b : Str} : decide (V.str a = V.str b) = decide (a = b) := by
  by_cases h : a = b
  · rw [h]; simp
  · rw [decide_eq_false h]
    exact decide_eq_false fun q => h (V.str.inj q)
theorem decI {i j : Int} (h : i = j) : decide (V.int i = V.int j) = true := by rw [h]; simp
theorem dec_int {a b : Int} : decide (V.int a = V.int b) = decide (a = b) := by
  by_cases h : a = b
  · rw [h]; simp
  · rw [decide_eq_false h]
    exact decide_eq_false fun q => h (V.int.inj q)
theorem dec_bl {a b : Bool} : decide (V.bl a = V.bl b) = decide (a = b) := by cases a <;> cases b <;> simp
theorem ite_dec {p : Prop} [Decidable p] : (if decide p then (1 : Int) else 0) = if p then 1 else 0 := by
  by_cases h : p <;> simp [h]
theorem bits_at {bs : List Int} (h : Bits bs) {k : Nat} (hk : k < bs.length) : bs.getD k 0 = 0 ∨ bs.getD k 0 = 1 := by
  refine h _ ?_
  rw [List.getD_eq_getElem?_getD, List.getElem?_eq_getElem hk]
  exact List.getElem_mem hk

/-! ### texts as lists of codes -/
def S (l : List Nat) : Str := ⟨l.toArray⟩
theorem s_len (l : List Nat) : (S l).length = l.length := by simp [S, Str.length]
theorem s_cps (l : List Nat) : (S l).cps.toList = l := by simp [S]
theorem s_app (l m : List Nat) : S l ++ S m = S (l ++ m) := by
  show Str.append _ _ = _
  simp [S, Str.append]
theorem s_inj {l m : List Nat} (h : S l = S m) : l = m := by
  have := congrArg (fun z : Str => z.cps.toList) h
  simpa [S] using this
theorem s_eq {l m : List Nat} : decide (V.str (S l) = V.str (S m)) = decide (l = m) := by
  rw [dec_str]
  by_cases h : l = m
  · rw [h]; simp
  · rw [decide_eq_false h]
    exact decide_eq_false fun z => h (s_inj z)
def isRun (c : Nat) : Bool := (decide (97 ≤ c) && decide (c ≤ 122)) || (decide (48 ≤ c) && decide (c ≤ 57))
def isLet (c : Nat) : Bool := decide (97 ≤ c) && decide (c ≤ 122)
def isDig (c : Nat) : Bool := decide (48 ≤ c) && decide (c ≤ 57)
def isBlank (c : Nat) : Bool := decide (c = 32) || decide (c = 10)
theorem mem_letters (c : Nat) : decide (c ∈ ("abcdefghijklmnopqrstuvwxyz" : Str).cps.toList) = isLet c := by
  have e : ("abcdefghijklmnopqrstuvwxyz" : Str).cps.toList = (List.range 26).map (· + 97) := by decide +kernel
  rw [e]
  unfold isLet
  rw [← Bool.decide_and]
  refine decide_eq_decide.mpr ⟨fun h => ?_, fun h => ?_⟩
  · obtain ⟨i, hi, rfl⟩ := List.mem_map.mp h
    have := List.mem_range.mp hi
    omega
  · exact List.mem_map.mpr ⟨c - 97, List.mem_range.mpr (by omega), by omega⟩
theorem mem_digits (c : Nat) : decide (c ∈ ("0123456789" : Str).cps.toList) = isDig c := by
  have e : ("0123456789" : Str).cps.toList = (List.range 10).map (· + 48) := by decide +kernel
  rw [e]
  unfold isDig
  rw [← Bool.decide_and]
  refine decide_eq_decide.mpr ⟨fun h => ?_, fun h => ?_⟩
  · obtain ⟨i, hi, rfl⟩ := List.mem_map.mp h
    have := List.mem_range.mp hi
    omega
  · exact List.mem_map.mpr ⟨c - 48, List.mem_range.mpr (by omega), by omega⟩
theorem mem_both (c : Nat) : decide (c ∈ ("abcdefghijklmnopqrstuvwxyz0123456789" : Str).cps.toList) = isRun c := by
  have e : ("abcdefghijklmnopqrstuvwxyz0123456789" : Str).cps.toList = ("abcdefghijklmnopqrstuvwxyz" : Str).cps.toList ++ ("0123456789" : Str).cps.toList := by decide +kernel
  rw [e]
  have h1 := mem_letters c
  have h2 := mem_digits c
  unfold isLet at h1
  unfold isDig at h2
  unfold isRun
  rw [← h1, ← h2]
  by_cases a : c ∈ ("abcdefghijklmnopqrstuvwxyz" : Str).cps.toList <;> by_cases b : c ∈ ("0123456789" : Str).cps.toList <;> simp [a, b, List.mem_append]
theorem mem_blank (c : Nat) : decide (c ∈ (" \n" : Str).cps.toList) = isBlank c := by
  have e : (" \n" : Str).cps.toList = [32, 10] := by decide +kernel
  rw [e]
  unfold isBlank
  by_cases a : c = 32
  · subst a; rfl
  · by_cases b : c = 10
    · subst b; rfl
    · simp [a, b]
section
variable {K : PySem.W.Frag} {σ : L2.St} {G H : Hp} {ta tb te : TE}
/-- text[i] -/
theorem ev_ixS {l : List Nat} {i : Nat} (h1 : Ev ta σ G (.str (S l))) (h2 : Ev tb σ G (.int (i : Int))) (hi : i < l.length) (hz : l.length ≤ 100000) : Ev (tOp rIxS ta tb) σ G (.str (S [l.getD i 0])) :=
  ev_op h1 h2 (rv_ixS (by rw [s_len]; exact hz) (by
    rw [s_cps]
    refine atI_nat ?_
    rw [List.getElem?_eq_getElem hi, List.getD_eq_getElem?_getD, List.getElem?_eq_getElem hi]
    rfl))
theorem rv_catS {l m : List Nat} (h : l.length + m.length ≤ 100000) : RV (fun x y H Q => ∃ i j, x = V.str i ∧ y = V.str j ∧ i.length + j.length ≤ sizeLine ∧ Q (V.str (i ++ j)) H) (.str (S l)) (.str (S m)) G (.str (S (l ++ m))) := fun H1 _ _ q => ⟨S l, S m, rfl, rfl, by rw [s_len, s_len]; exact sz_of h, by
  rw [s_app]
  exact q H1 (Ex.refl H1)⟩
theorem rv_inC {c : Nat} {w : Str} {b : Bool} (h : decide (c ∈ w.cps.toList) = b) : RV (fun x y H Q => ∃ (c : Nat) (z : Str), x = V.str ⟨#[c]⟩ ∧ y = V.str z ∧ Q (V.bl (decide (c ∈ z.cps.toList))) H) (.str (S [c])) (.str w) G (.bl b) := fun H1 _ _ q => ⟨c, w, rfl, rfl, by
  rw [h]
  exact q H1 (Ex.refl H1)⟩
theorem rv_niC {c : Nat} {w : Str} {b : Bool} (h : decide (c ∈ w.cps.toList) = b) : RV (fun x y H Q => ∃ (c : Nat) (z : Str), x = V.str ⟨#[c]⟩ ∧ y = V.str z ∧ Q (V.bl (!decide (c ∈ z.cps.toList))) H) (.str (S [c])) (.str w) G (.bl (!b)) := fun H1 _ _ q => ⟨c, w, rfl, rfl, by
  rw [h]
  exact q H1 (Ex.refl H1)⟩
theorem ev_lenC {l : List Nat} (h : Ev ta σ G (.str (S l))) (hz : l.length ≤ 100000) : Ev (tCB (fun xs H Q => ∃ z : Str, xs = [V.str z] ∧ z.length ≤ sizeLine ∧ Q (.int z.length) H) (tCons ta tNil)) σ G (.int (l.length : Int)) := fun H1 e Q q =>
  h H1 e _ fun H2 e2 => ⟨S l, rfl, by rw [s_len]; exact sz_of hz, by
    rw [s_len]
    exact q H2 e2⟩
/-- text[a:b] -/
theorem ev_slC {l : List Nat} {a b : Nat} (h : Ev te σ G (.str (S l))) (h1 : Ev ta σ G (.int (a : Int))) (h2 : Ev tb σ G (.int (b : Int))) (hab : a ≤ b) (hb : b ≤ l.length) (hz : l.length ≤ 100000) : Ev (tSl rSlS te (tPart ta) (tPart tb)) σ G (.str (S ((l.drop a).take (b - a)))) := by
  have e : cutS (S l) (some (a : Int)) (some (b : Int)) = S ((l.drop a).take (b - a)) := by
    unfold cutS
    rw [s_len, s_cps, show HT.sIx l.length 0 (some (a : Int)) = min a l.length from HT.sIx_nat l.length 0 a, show HT.sIx l.length l.length (some (b : Int)) = min b l.length from HT.sIx_nat l.length l.length b, Nat.min_eq_left hb, Nat.min_eq_left (by omega)]
    rfl
  rw [← e]
  exact ev_slS h (eo_some h1) (eo_some h2) (by rw [s_len]; exact hz)
end

/-! ### tokens: what a text's tokens are, sign by sign -/
abbrev Tok1 := Nat × List Nat
def extL : List Tok1 → Nat → List Tok1
  | [], _ => []
  | [(p, t)], c => [(p, t ++ [c])]
  | x :: y :: r, c => x :: extL (y :: r) c
def joins (l : List Nat) (c : Nat) : Bool := match l.getLast? with
  | none => false
  | some d => isRun c && isRun d
def stepT (acc : List Tok1) (l : List Nat) (c : Nat) : List Tok1 := if joins l c then extL acc c else if isBlank c then acc else acc ++ [(l.length, [c])]
def TK (l : List Nat) : List Tok1 := (List.range l.length).foldl (fun acc k => stepT acc (l.take k) (l.getD k 0)) []
theorem foldl_congr {α β : Type} {f g : β → α → β} : ∀ (l : List α) (b : β), (∀ x ∈ l, ∀ b, f b x = g b x) → l.foldl f b = l.foldl g b
  | [], _, _ => rfl
  | x :: r, b, h => by
    rw [List.foldl_cons, List.foldl_cons, h x List.mem_cons_self b]
    exact foldl_congr r _ fun y hy => h y (List.mem_cons_of_mem _ hy)
theorem tk_snoc (l : List Nat) (c : Nat) : TK (l ++ [c]) = stepT (TK l) l c := by
  unfold TK
  rw [List.length_append, List.length_singleton, List.range_succ, List.foldl_append, List.foldl_cons, List.foldl_nil]
  have e1 : (l ++ [c]).take l.length = l := List.take_left' rfl
  have e2 : (l ++ [c]).getD l.length 0 = c := by
    rw [List.getD_eq_getElem?_getD, List.getElem?_append_right (Nat.le_refl _), Nat.sub_self]
    rfl
  rw [e1, e2]
  congr 1
  refine foldl_congr _ _ fun k hk b => ?_
  have hk := List.mem_range.mp hk
  rw [List.take_append_of_le_length (by omega), List.getD_eq_getElem?_getD, List.getElem?_append_left hk, ← List.getD_eq_getElem?_getD]
theorem tk_nil : TK [] = [] := rfl
/-- no run goes on at the end of l into c -/
def Bound (l : List Nat) (c : Nat) : Prop := joins l c = false
theorem extL_snoc (acc : List Tok1) (p : Nat) (t : List Nat) (c : Nat) : extL (acc ++ [(p, t)]) c = acc ++ [(p, t ++ [c])] := by
  induction acc with
  | nil => rfl
  | cons x r ih =>
    cases r with
    | nil => rfl
    | cons y s =>
      show x :: extL ((y :: s) ++ [(p, t)]) c = x :: ((y :: s) ++ [(p, t ++ [c])])
      rw [ih]
theorem run_blank {c : Nat} (h : isRun c = true) : isBlank c = false := by
  unfold isRun at h
  unfold isBlank
  simp at h ⊢
  omega
theorem tk_run (l : List Nat) : ∀ (r : List Nat) (c : Nat), (∀ x ∈ c :: r, isRun x = true) → joins l c = false → TK (l ++ c :: r) = TK l ++ [(l.length, c :: r)] := by
  intro r c
  have g : ∀ (n : Nat) (r : List Nat), r.length = n → (∀ x ∈ c :: r, isRun x = true) → joins l c = false → TK (l ++ c :: r) = TK l ++ [(l.length, c :: r)] := by
    intro n
    induction n with
    | zero =>
      intro r hr hx hj
      have : r = [] := List.eq_nil_of_length_eq_zero hr
      subst this
      rw [tk_snoc]
      unfold stepT
      rw [hj, run_blank (hx c List.mem_cons_self)]
      rfl
    | succ n ih =>
      intro r hr hx hj
      obtain ⟨s, d, rfl⟩ : ∃ s d, r = s ++ [d] := ⟨r.dropLast, r.getLast (by intro z; subst z; cases hr), (List.dropLast_concat_getLast _).symm⟩
      have hs : s.length = n := by rw [List.length_append, List.length_singleton] at hr; omega
      have e : l ++ c :: (s ++ [d]) = (l ++ c :: s) ++ [d] := by simp
      rw [e, tk_snoc, ih s hs (fun x hx' => hx x (by
        rcases List.mem_cons.mp hx' with h | h
        · rw [h]; exact List.mem_cons_self
        · exact List.mem_cons_of_mem _ (List.mem_append_left _ h))) hj]
      unfold stepT
      have hd : isRun d = true := hx d (List.mem_cons_of_mem _ (List.mem_append_right _ (List.mem_singleton.mpr rfl)))
      have hlast : ∃ x, (l ++ c :: s).getLast? = some x ∧ isRun x = true := by
        refine ⟨(c :: s).getLast (List.cons_ne_nil _ _), ?_, hx _ ?_⟩
        · rw [List.getLast?_append, List.getLast?_eq_getLast (List.cons_ne_nil _ _)]
          rfl
        · have := List.getLast_mem (List.cons_ne_nil c s)
          rcases List.mem_cons.mp this with h | h
          · rw [h]; exact List.mem_cons_self
          · exact List.mem_cons_of_mem _ (List.mem_append_left _ h)
      obtain ⟨x, hx1, hx2⟩ := hlast
      have hjj : joins (l ++ c :: s) d = true := by
        unfold joins
        rw [hx1]
        simp [hd, hx2]
      rw [hjj, if_pos rfl, extL_snoc]
      simp
  exact g r.length r rfl
theorem tk_sign (l : List Nat) {c : Nat} (h1 : isRun c = false) (h2 : isBlank c = false) : TK (l ++ [c]) = TK l ++ [(l.length, [c])] := by
  rw [tk_snoc]
  unfold stepT
  have : joins l c = false := by
    unfold joins
    cases l.getLast? with
    | none => rfl
    | some d => simp [h1]
  rw [this, h2]
  rfl
theorem blank_run {c : Nat} (h : isBlank c = true) : isRun c = false := by
  cases h2 : isRun c with
  | false => rfl
  | true => rw [run_blank h2] at h; cases h
theorem tk_blank (l : List Nat) {c : Nat} (h : isBlank c = true) : TK (l ++ [c]) = TK l := by
  rw [tk_snoc]
  unfold stepT
  have : joins l c = false := by
    unfold joins
    cases l.getLast? with
    | none => rfl
    | some d => simp [blank_run h]
  rw [this, h]
  rfl
theorem tk_blanks (l : List Nat) : ∀ b : List Nat, (∀ x ∈ b, isBlank x = true) → TK (l ++ b) = TK l := by
  intro b
  induction b generalizing l with
  | nil => intro _; rw [List.append_nil]
  | cons c r ih =>
    intro h
    rw [show l ++ c :: r = (l ++ [c]) ++ r by simp, ih _ fun x hx => h x (List.mem_cons_of_mem _ hx), tk_blank l (h c List.mem_cons_self)]
def PairAt (K : PySem.W.Frag) (H : Hp) (v : V) (t : Tok1) : Prop := ∃ p, v = .ref p ∧ SqT K H p [.int (t.1 : Int), .str (S t.2)]
def AllAt {α : Type} (R : V → α → Prop) (vs : List V) (cs : List α) : Prop := vs.length = cs.length ∧ ∀ (i : Nat) v c, vs[i]? = some v → cs[i]? = some c → R v c
theorem pair_mono {K : PySem.W.Frag} {G H : Hp} (e : Ex G H) {v : V} {t : Tok1} (h : PairAt K G v t) : PairAt K H v t := by
  obtain ⟨p, a, b⟩ := h
  exact ⟨p, a, ex_t e b⟩
theorem pair_upd {K : PySem.W.Frag} {H : Hp} {l : Addr} {ys : List V} {o : HO} {v : V} {t : Tok1} (h : PairAt K H v t) (hl : H l = some (.lst ys)) : PairAt K (upd H l o) v t := by
  obtain ⟨p, a, b⟩ := h
  exact ⟨p, a, st_upd b hl⟩
theorem allAt_snoc {α : Type} {R : V → α → Prop} {vs : List V} {cs : List α} {v : V} {c : α} (h : AllAt R vs cs) (hc : R v c) : AllAt R (vs ++ [v]) (cs ++ [c]) := ⟨by rw [List.length_append, List.length_append, h.1]; rfl, fun i w d hw hd => by
  by_cases hi : i < cs.length
  · rw [List.getElem?_append_left hi] at hd
    rw [List.getElem?_append_left (by rw [h.1]; exact hi)] at hw
    exact h.2 i w d hw hd
  · have hi2 : i = cs.length := by
      have := (List.getElem?_eq_some_iff.mp hd).1
      rw [List.length_append, List.length_singleton] at this
      omega
    subst hi2
    rw [List.getElem?_append_right (Nat.le_refl _), Nat.sub_self] at hd
    rw [List.getElem?_append_right (by rw [h.1]; exact Nat.le_refl _), h.1, Nat.sub_self] at hw
    obtain rfl := Option.some.inj hd
    obtain rfl := Option.some.inj hw
    exact hc⟩
theorem allAt_mono {α : Type} {R R' : V → α → Prop} {vs : List V} {cs : List α} (h : AllAt R vs cs) (m : ∀ v c, R v c → R' v c) : AllAt R' vs cs := ⟨h.1, fun i v c a b => m v c (h.2 i v c a b)⟩

/-! ### the program's tokens -/
def sp_is_run_character (K : PySem.W.Frag) : Sp := fun vs H Q _ => ∃ c, vs = [.str (S [c])] ∧ RetV (.bl (isRun c)) H Q
theorem run_or (c : Nat) : (isLet c || isDig c) = isRun c := rfl
theorem ok_is_run_character (T : Top K mg w a) : FnOk P w K mg base CX0 1 a.f_is_run_character a.d_is_run_character ["character"] (sp_is_run_character K) := by
  refine T.F_is_run_character.ok sc_is_run_character (fun vs H Q E h => ?_) (fun cdv A outer s H vs Q E hr h => ?_)
  · obtain ⟨c, rfl, _⟩ := h
    rfl
  · obtain ⟨c, rfl, q⟩ := h
    refine ⟨_, (pss_one (ps_ret (pe_or (pe_cmpR op_in_sign (pv 0) (pe_const rfl T.c_LETTERS) (by rfl)) (pe_one (pe_cmpR op_in_sign (pv 0) (pe_const rfl T.c_DIGITS) (by rfl)))))), ?_⟩
    exact a_ret (Ex.refl H) (v := .bl (isRun c)) (ev_is (ev_orV (ev_op (ev_var rfl) ev_c (rv_inC (mem_letters c))) fun _ => ev_op (ev_var rfl) ev_c (rv_inC (mem_digits c))) (by rw [run_or])) q
def runEnd (l : List Nat) (p : Nat) : Nat := p + ((l.drop p).takeWhile isRun).length
theorem tw_step {l : List Nat} {p e : Nat} (h1 : e < l.length) (h2 : isRun (l.getD e 0) = true) (h3 : e ≤ runEnd l p) (h0 : p ≤ e) (hr : ∀ k, p ≤ k → k < e → isRun (l.getD k 0) = true) : e + 1 ≤ runEnd l p := by
  unfold runEnd at *
  have g : ∀ (m : List Nat) (n : Nat), n < m.length → (∀ k, k ≤ n → isRun (m.getD k 0) = true) → n + 1 ≤ (m.takeWhile isRun).length := by
    intro m
    induction m with
    | nil => intro n h; exact absurd h (Nat.not_lt_zero _)
    | cons x r ih =>
      intro n hn hk
      have hx : isRun x = true := hk 0 (Nat.zero_le _)
      rw [List.takeWhile_cons, if_pos hx, List.length_cons]
      cases n with
      | zero => omega
      | succ n =>
        have := ih n (by rw [List.length_cons] at hn; omega) (fun k hk2 => hk (k + 1) (by omega))
        omega
  have := g (l.drop p) (e - p) (by rw [List.length_drop]; omega) (fun k hk => by
    have e1 : (l.drop p).getD k 0 = l.getD (p + k) 0 := by rw [List.getD_eq_getElem?_getD, List.getElem?_drop, ← List.getD_eq_getElem?_getD]
    rw [e1]
    by_cases q : p + k = e
    · rw [q]; exact h2
    · exact hr _ (by omega) (by omega))
  omega
theorem tw_le {l : List Nat} {p : Nat} (h : p ≤ l.length) : runEnd l p ≤ l.length := by
  unfold runEnd
  have := (List.takeWhile_sublist isRun (l := l.drop p)).length_le
  rw [List.length_drop] at this
  omega
theorem tw_stop {l : List Nat} {p : Nat} (h : runEnd l p < l.length) : isRun (l.getD (runEnd l p) 0) = false := by
  unfold runEnd at *
  have g : ∀ m : List Nat, (m.takeWhile isRun).length < m.length → isRun (m.getD (m.takeWhile isRun).length 0) = false := by
    intro m
    induction m with
    | nil => intro h; exact absurd h (Nat.not_lt_zero _)
    | cons x r ih =>
      intro h
      by_cases hx : isRun x = true
      · rw [List.takeWhile_cons, if_pos hx, List.length_cons] at h ⊢
        exact ih (by rw [List.length_cons] at h; omega)
      · rw [List.takeWhile_cons, if_neg hx]
        exact Bool.eq_false_iff.mpr hx
  have := g (l.drop p) (by rw [List.length_drop]; omega)
  rw [List.getD_eq_getElem?_getD, List.getElem?_drop, ← List.getD_eq_getElem?_getD] at this
  exact this
theorem tw_run {l : List Nat} {p k : Nat} (h1 : p ≤ k) (h2 : k < runEnd l p) : isRun (l.getD k 0) = true := by
  unfold runEnd at h2
  have g : ∀ (m : List Nat) (n : Nat), n < (m.takeWhile isRun).length → isRun (m.getD n 0) = true := by
    intro m
    induction m with
    | nil => intro n h; exact absurd h (Nat.not_lt_zero _)
    | cons x r ih =>
      intro n h
      by_cases hx : isRun x = true
      · rw [List.takeWhile_cons, if_pos hx, List.length_cons] at h
        cases n with
        | zero => exact hx
        | succ n => exact ih n (by omega)
      · rw [List.takeWhile_cons, if_neg hx] at h
        exact absurd h (Nat.not_lt_zero _)
  have := g (l.drop p) (k - p) (by omega)
  rw [List.getD_eq_getElem?_getD, List.getElem?_drop, ← List.getD_eq_getElem?_getD, show p + (k - p) = k by omega] at this
  exact this
def sp_token_end (K : PySem.W.Frag) : Sp := fun vs H Q _ => ∃ (l : List Nat) (p : Nat), vs = [.str (S l), .int (p : Int)] ∧ p < l.length ∧ l.length ≤ 50000 ∧ RetV (.int ((max (runEnd l p) (p + 1) : Nat) : Int)) H Q
theorem ev_maxN {K : PySem.W.Frag} {σ : L2.St} {G : Hp} {ta tb : TE} {i j : Nat} (ha : Ev ta σ G (.int (i : Int))) (hb : Ev tb σ G (.int (j : Int))) : Ev (tCB (fun xs H Q => ∃ i j, xs = [V.int i, V.int j] ∧ Q (.int (if j > i then j else i)) H) (tCons ta (tCons tb tNil))) σ G (.int ((max i j : Nat) : Int)) := by
  refine ev_is (ev_max2' ha hb) ?_
  congr 1
  split <;> omega
theorem ok_token_end (T : Top K mg w a) : FnOk P w K mg base CX0 2 a.f_token_end a.d_token_end ["text", "place"] (sp_token_end K) := by
  refine T.F_token_end.ok sc_token_end (fun vs H Q E h => ?_) (fun cdv A outer s H vs Q E hr h => ?_)
  · obtain ⟨l, p, rfl, _⟩ := h
    rfl
  · obtain ⟨l, p, rfl, hp, hz, q⟩ := h
    refine ⟨_, (pss_cons (ps_set (i := 2) sc_token_end.nd rfl (Or.inl rfl) (pv 1))
      (pss_cons (ps_while PassesOwn.never (PW.pt (pw_and (pt_cmpR op_lt (pv 2) (pe_callB call_len_str (by rfl) T.z_len (by decide +kernel) (pa_cons (pv 0) pa_nil)) (nomark _)) (pw_and1 (pt_val (pe_call (ok_is_run_character T) (hr.mono (by decide)) (by rfl) T.g_is_run_character T.F_is_run_character.kp T.b_is_run_character .nil pass0 (pa_cons (pe_ix ix_str (pv 0) (pv 2) (fun _ _ => rfl)) pa_nil))))))
      (pss_one (ps_aug (i := 2) sc_token_end.nd rfl (Or.inl rfl) pe_int ip_add)))
      (pss_one (ps_ret (pe_callB (call_max2 rfl) (by rfl) T.z_max (by decide +kernel) (pa_cons (pv 2) (pa_cons (pe_op op_add (pv 1) pe_int) pa_nil))))))), ?_⟩
    refine a_set (Ex.refl H) (ev_var rfl) (fun H1 e1 => ?_)
    refine q_while (fun m σ' H' => ∃ e : Nat, σ' = [some (.str (S l)), some (.int (p : Int)), some (.int (e : Int))] ∧ p ≤ e ∧ e ≤ runEnd l p ∧ (∀ k, p ≤ k → k < e → isRun (l.getD k 0) = true) ∧ m = l.length + 1 - e ∧ Ex H H') (l.length + 1 - p) ⟨p, rfl, Nat.le_refl _, by unfold runEnd; omega, fun k a b => by omega, rfl, e1⟩ ?_
    rintro m σ' H' ⟨e, rfl, h0, h1, hr, hm, e2⟩
    have hle := tw_le (l := l) (p := p) (by omega)
    by_cases hlt : e < l.length
    · refine ⟨isRun (l.getD e 0), et_is (et_and (b := isRun (l.getD e 0)) (et_test (ev_op (ev_var rfl) (ev_lenC (ev_var rfl) (by omega)) rv_I0)) fun _ => et_B (ev_call1 (z := .bl (isRun (l.getD e 0))) (ea_cons (ev_ixS (ev_var rfl) (ev_var rfl) hlt (by omega)) ea_nil) fun H1 _ Q hq E => ⟨_, rfl, hq⟩)) (by rw [decide_eq_true (by omega)]; rfl), fun hb H3 e3 => ?_, fun hb H3 e3 => ?_⟩
      · refine ⟨fun σ2 H2 => ∃ e : Nat, σ2 = [some (.str (S l)), some (.int (p : Int)), some (.int (e : Int))] ∧ p ≤ e ∧ e ≤ runEnd l p ∧ (∀ k, p ≤ k → k < e → isRun (l.getD k 0) = true) ∧ l.length + 1 - e < m ∧ Ex H H2, fun σ2 H2 ⟨e, a, b, c, d, f, g⟩ => ⟨_, f, e, a, b, c, d, rfl, g⟩, ?_⟩
        refine a_aug1 (Ex.refl H3) rfl ev_c (fun H4 e4 => ⟨e + 1, rfl, by omega, tw_step hlt hb h1 h0 hr, fun k a b => ?_, by omega, e2.trans (e3.trans e4)⟩)
        by_cases q : k = e
        · rw [q]; exact hb
        · exact hr k a (by omega)
      · have ee : e = runEnd l p := by
          by_cases q : e < runEnd l p
          · rw [tw_run h0 q] at hb
            cases hb
          · omega
        subst ee
        exact a_ret (Ex.refl H3) (ev_maxN (K := K) (ev_var rfl) (ev_is (ev_op (ev_var rfl) ev_c rv_I0) (by congr 1))) (fun H4 e4 => q H4 (e2.trans (e3.trans e4)))
    · refine ⟨false, et_is (et_and (b := false) (et_test (ev_op (ev_var rfl) (ev_lenC (ev_var rfl) (by omega)) rv_I0)) fun h => absurd h (by rw [decide_eq_false (by omega)]; decide)) (by rw [decide_eq_false (by omega)]; rfl), (fun hb => nomatch hb), fun _ H3 e3 => ?_⟩
      have ee : e = runEnd l p := by omega
      subst ee
      exact a_ret (Ex.refl H3) (ev_maxN (K := K) (ev_var rfl) (ev_is (ev_op (ev_var rfl) ev_c rv_I0) (by congr 1))) (fun H4 e4 => q H4 (e2.trans (e3.trans e4)))
/-- the run or the sign at p -/
theorem tk_step {l : List Nat} {p : Nat} (hp : p < l.length) (hb : p = 0 ∨ isRun (l.getD (p - 1) 0) = false ∨ isRun (l.getD p 0) = false) :
    TK (l.take (max (runEnd l p) (p + 1))) = if isBlank (l.getD p 0) then TK (l.take p) else TK (l.take p) ++ [(p, (l.drop p).take (max (runEnd l p) (p + 1) - p))] := by
  have hlen : (l.take p).length = p := by rw [List.length_take]; omega
  have hsp : l.take (p + 1) = l.take p ++ [l.getD p 0] := by
    rw [List.take_add_one, List.getElem?_eq_getElem hp, List.getD_eq_getElem?_getD, List.getElem?_eq_getElem hp]
    rfl
  have hd1 : l.drop p = l.getD p 0 :: l.drop (p + 1) := by
    rw [List.drop_eq_getElem_cons hp, List.getD_eq_getElem?_getD, List.getElem?_eq_getElem hp]
    rfl
  by_cases hr : isRun (l.getD p 0) = true
  · have hj : joins (l.take p) (l.getD p 0) = false := by
      unfold joins
      rcases hb with h | h | h
      · subst h; rfl
      · by_cases p0 : p = 0
        · subst p0; rfl
        · have : (l.take p).getLast? = some (l.getD (p - 1) 0) := by
            rw [List.getLast?_eq_getElem?, hlen, List.getElem?_take_of_lt (by omega), List.getElem?_eq_getElem (by omega), List.getD_eq_getElem?_getD, List.getElem?_eq_getElem (by omega)]
            rfl
          rw [this]
          show (isRun (l.getD p 0) && isRun (l.getD (p - 1) 0)) = false
          rw [h, Bool.and_false]
      · rw [h] at hr; cases hr
    have he : p + 1 ≤ runEnd l p := tw_step hp hr (by unfold runEnd; omega) (Nat.le_refl p) (fun k a b => by omega)
    have hle := tw_le (l := l) (p := p) (by omega)
    rw [Nat.max_eq_left he, run_blank hr]
    have hsplit : l.take (runEnd l p) = l.take p ++ l.getD p 0 :: (l.drop (p + 1)).take (runEnd l p - (p + 1)) := by
      have h1 : l.take (runEnd l p) = l.take p ++ (l.drop p).take (runEnd l p - p) := by
        have := List.take_add (l := l) (i := p) (j := runEnd l p - p)
        rw [show p + (runEnd l p - p) = runEnd l p by omega] at this
        exact this
      rw [h1, hd1, show runEnd l p - p = (runEnd l p - (p + 1)) + 1 by omega, List.take_succ_cons]
    rw [hsplit, tk_run _ _ _ ?_ hj, hlen, hd1, show runEnd l p - p = (runEnd l p - (p + 1)) + 1 by omega, List.take_succ_cons]
    · rfl
    · intro x hx
      have hx2 : x ∈ (l.drop p).take (runEnd l p - p) := by
        rw [hd1, show runEnd l p - p = (runEnd l p - (p + 1)) + 1 by omega, List.take_succ_cons]
        exact hx
      obtain ⟨k, hk, e⟩ := List.mem_iff_getElem.mp hx2
      rw [List.length_take, List.length_drop] at hk
      have := tw_run (l := l) (p := p) (k := p + k) (by omega) (by omega)
      rw [List.getElem_take, List.getElem_drop] at e
      rw [List.getD_eq_getElem?_getD, List.getElem?_eq_getElem (by omega)] at this
      rw [← e]
      exact this
  · have hr := Bool.eq_false_iff.mpr hr
    have he : runEnd l p = p := by
      unfold runEnd
      rw [hd1, List.takeWhile_cons, if_neg (by rw [hr]; exact Bool.false_ne_true)]
      rfl
    rw [he, Nat.max_eq_right (by omega), hsp, show p + 1 - p = 1 by omega, hd1]
    by_cases hbl : isBlank (l.getD p 0) = true
    · rw [if_pos hbl, tk_blank _ hbl]
    · rw [if_neg hbl, tk_sign _ hr (Bool.eq_false_iff.mpr hbl), hlen]
      rfl
def sp_split_tokens (K : PySem.W.Frag) : Sp := fun vs H Q _ => ∃ (l : List Nat), vs = [.str (S l)] ∧ l.length ≤ 50000 ∧ ∀ p ws H2, H p = none → Ex H H2 → H2 p = some (.lst ws) → AllAt (PairAt K H2) ws (TK l) → Q (.ref p) H2
theorem tk_len (l : List Nat) : (TK l).length ≤ l.length := by
  have g : ∀ (n : Nat) (l : List Nat), l.length = n → (TK l).length ≤ n := by
    intro n
    induction n with
    | zero =>
      intro l hl
      have := List.eq_nil_of_length_eq_zero hl
      subst this
      exact Nat.le_refl 0
    | succ n ih =>
      intro l hl
      obtain ⟨m, c, rfl⟩ : ∃ m c, l = m ++ [c] := ⟨l.dropLast, l.getLast (by intro z; subst z; cases hl), (List.dropLast_concat_getLast _).symm⟩
      have hm : m.length = n := by rw [List.length_append, List.length_singleton] at hl; omega
      have := ih m hm
      rw [tk_snoc]
      have ext : ∀ (a : List Tok1) c, (extL a c).length = a.length := by
        intro a c
        induction a with
        | nil => rfl
        | cons x r ih =>
          cases r with
          | nil => rfl
          | cons y s =>
            show (x :: extL (y :: s) c).length = _
            rw [List.length_cons, ih]
            rfl
      unfold stepT
      split
      · rw [ext]; omega
      split
      · omega
      · rw [List.length_append, List.length_singleton]; omega
  exact g _ l rfl
theorem ep_pair {K : PySem.W.Frag} {σ : L2.St} {G : Hp} {ta tb : TE} {p : Nat} {t : List Nat} (h1 : Ev ta σ G (.int (p : Int))) (h2 : Ev tb σ G (.str (S t))) : EvP (tTup (tCons ta (tCons tb tNil))) σ G (fun w H => PairAt K H w (p, t)) := fun H1 e Q q =>
  ep_tup (n := 2) (eap_cons (ep_of h1) mono_v (eap_cons (ep_of h2) mono_v eap_nil)) (mono_cons mono_v (mono_cons mono_v mono_nil)) (len_cons (len_cons len_nil)) (by decide) H1 e Q fun v H2 e2 h => by
    obtain ⟨r, vs, rfl, hp, v1, r1, rfl, rfl, v2, r2, rfl, rfl, hn⟩ := h
    rw [hn] at hp
    exact q _ H2 e2 ⟨r, rfl, st_of hp⟩
theorem ok_split_tokens (T : Top K mg w a) : FnOk P w K mg base CX0 3 a.f_split_tokens a.d_split_tokens ["text"] (sp_split_tokens K) := by
  refine T.F_split_tokens.ok sc_split_tokens (fun vs H Q E h => ?_) (fun cdv A outer s H vs Q E hr h => ?_)
  · obtain ⟨l, rfl, _⟩ := h
    rfl
  · obtain ⟨l, rfl, hz, q⟩ := h
    refine ⟨_, (pss_cons (ps_set (i := 1) sc_split_tokens.nd rfl (Or.inl rfl) (pe_lst pa_nil))
      (pss_cons (ps_set (i := 2) sc_split_tokens.nd rfl (Or.inl rfl) pe_int)
      (pss_cons (ps_while PassesOwn.never (pt_cmpR op_lt (pv 2) (pe_callB call_len_str (by rfl) T.z_len (by decide +kernel) (pa_cons (pv 0) pa_nil)) (nomark _))
      (pss_cons (ps_set (i := 3) sc_split_tokens.nd rfl (Or.inl rfl) (pe_call (ok_token_end T) (hr.mono (by decide)) (by rfl) T.g_token_end T.F_token_end.kp T.b_token_end .nil pass0 (pa_cons (pv 0) (pa_cons (pv 2) pa_nil))))
      (Evl.pss_cut (ps_if (pt_cmpR op_notIn_sign (pe_ix ix_str (pv 0) (pv 2) (fun _ _ => rfl)) pe_str (by rfl))
      (pss_one (ps_expr (pe_bm PySem.F.plainAttrs_list PySem.F.slot_list_append PySem.F.type_list_append mt_append (pv 1) (pa_cons (pe_tup (pa_cons (pv 2) (pa_cons (pe_slice sl_str (pv 0) (po_some (pv 2)) (po_some (pv 3))) pa_nil))) pa_nil))))
      pss_nil)
      (pss_one (ps_set (i := 2) sc_split_tokens.nd rfl (Or.inl rfl) (pv 3))))))
      (pss_one (ps_ret (pv 1)))))), ?_⟩
    refine a_setL (Ex.refl H) (el_lst ea_nil (by decide)) (fun r H1 hr1 e1 => ?_)
    refine a_set e1 ev_c (fun H2 e2 => ?_)
    refine q_while (fun m σ' H' => ∃ (p : Nat) (y : Option V) (ws : List V), σ' = [some (.str (S l)), some (.ref r), some (.int (p : Int)), y] ∧ p ≤ l.length ∧ (p = 0 ∨ p = l.length ∨ isRun (l.getD (p - 1) 0) = false ∨ isRun (l.getD p 0) = false) ∧ AllAt (PairAt K H') ws (TK (l.take p)) ∧ H' r = some (.lst ws) ∧ m = l.length - p ∧ Ex H H') l.length ⟨0, none, [], rfl, Nat.zero_le _, .inl rfl, ⟨rfl, fun i v c h => by cases h⟩, e2 _ _ upd_same, rfl, (Ex.new hr1).trans e2⟩ ?_
    rintro m σ' H' ⟨p, y, ws, rfl, hp, hb, hA, hr, hm, e3⟩
    have hwl : ws.length ≤ 50000 := by
      rw [hA.1]
      have := tk_len (l.take p)
      rw [List.length_take] at this
      omega
    by_cases hlt : p < l.length
    · refine ⟨true, et_is (et_test (ev_op (ev_var rfl) (ev_lenC (ev_var rfl) (by omega)) rv_I0)) (decide_eq_true (by omega)), fun _ H4 e4 => ?_, (fun hb => nomatch hb)⟩
      have hE : max (runEnd l p) (p + 1) ≤ l.length := by
        have := tw_le (l := l) (p := p) (by omega)
        omega
      have hstep := tk_step hlt (by
        rcases hb with h | h | h | h
        · exact .inl h
        · omega
        · exact .inr (.inl h)
        · exact .inr (.inr h))
      generalize hE2 : max (runEnd l p) (p + 1) = E1 at hE hstep
      refine ⟨fun σ2 H2 => ∃ (p' : Nat) (y : Option V) (ws : List V), σ2 = [some (.str (S l)), some (.ref r), some (.int (p' : Int)), y] ∧ p' ≤ l.length ∧ (p' = 0 ∨ p' = l.length ∨ isRun (l.getD (p' - 1) 0) = false ∨ isRun (l.getD p' 0) = false) ∧ AllAt (PairAt K H2) ws (TK (l.take p')) ∧ H2 r = some (.lst ws) ∧ p < p' ∧ Ex H H2, fun σ2 H2 ⟨p', y, ws, a, b, c, d, f, g, i⟩ => ⟨_, by omega, p', y, ws, a, b, c, d, f, rfl, i⟩, ?_⟩
      refine a_set (Ex.refl H4) (v := .int (E1 : Int)) (ev_call1 (ea_cons (ev_var rfl) (ea_cons (ev_var rfl) ea_nil)) fun H1 _ Q hq E => ⟨l, p, rfl, hlt, hz, by rw [hE2]; exact hq⟩) (fun H5 e5 => ?_)
      have x5 : Ex H' H5 := e4.trans e5
      have hbd : E1 = 0 ∨ E1 = l.length ∨ isRun (l.getD (E1 - 1) 0) = false ∨ isRun (l.getD E1 0) = false := by
        by_cases h1 : E1 = l.length
        · exact .inr (.inl h1)
        · by_cases h2 : runEnd l p = p
          · have : E1 = p + 1 := by omega
            refine .inr (.inr (.inl ?_))
            rw [this, Nat.add_sub_cancel]
            cases h3 : isRun (l.getD p 0) with
            | false => rfl
            | true =>
              have := tw_step hlt h3 (by unfold runEnd; omega) (Nat.le_refl p) (fun k a b => by omega)
              omega
          · have h4 : p ≤ runEnd l p := by unfold runEnd; omega
            have : E1 = runEnd l p := by omega
            refine .inr (.inr (.inr ?_))
            rw [this]
            exact tw_stop (by omega)
      refine a_whenS (M := fun σ' H' => ∃ (ws : List V), σ' = [some (.str (S l)), some (.ref r), some (.int (p : Int)), some (.int (E1 : Int))] ∧ AllAt (PairAt K H') ws (TK (l.take E1)) ∧ H' r = some (.lst ws) ∧ Ex H H') (Ex.refl H5) (et_test (ev_op (ev_ixS (ev_var rfl) (ev_var rfl) hlt (by omega)) ev_c (rv_niC (mem_blank _)))) (fun hb2 H6 e6 => ?_) (fun hb2 H6 e6 => ?_) ?_
      · have hnb : isBlank (l.getD p 0) = false := by simpa using hb2
        rw [hnb, if_neg Bool.false_ne_true] at hstep
        refine a_appP1 (Ex.refl H6) (ev_var rfl) (e6 _ _ (x5 _ _ hr)) (ep_pair (K := K) (ev_var rfl) (ev_slC (ev_var rfl) (ev_var rfl) (ev_var rfl) (by omega) hE (by omega))) (by omega) (fun v H7 e7 hv => ?_)
        have hr7 := e7 _ _ (e6 _ _ (x5 _ _ hr))
        refine ⟨ws ++ [v], rfl, ?_, upd_same, Ex.mut (e3.trans (x5.trans (e6.trans e7))) hr1⟩
        rw [hstep]
        exact allAt_snoc (allAt_mono hA fun v c h => pair_upd (pair_mono (x5.trans (e6.trans e7)) h) hr7) (pair_upd hv hr7)
      · have hnb : isBlank (l.getD p 0) = true := by simpa using hb2
        rw [hnb, if_pos rfl] at hstep
        refine ⟨ws, rfl, ?_, e6 _ _ (x5 _ _ hr), e3.trans (x5.trans e6)⟩
        rw [hstep]
        exact allAt_mono hA fun v c h => pair_mono (x5.trans e6) h
      · rintro σ2 H6 ⟨ws2, rfl, a1, a2, a3⟩
        exact a_set1 (Ex.refl H6) (ev_var rfl) (fun H7 e7 => ⟨E1, _, ws2, rfl, hE, hbd, allAt_mono a1 fun v c h => pair_mono e7 h, e7 _ _ a2, by omega, a3.trans e7⟩)
    · have hpl : p = l.length := by omega
      refine ⟨false, et_is (et_test (ev_op (ev_var rfl) (ev_lenC (ev_var rfl) (by omega)) rv_I0)) (decide_eq_false (by omega)), (fun hb => nomatch hb), fun _ H4 e4 => ?_⟩
      rw [hpl, List.take_of_length_le (Nat.le_refl _)] at hA
      exact a_ret (Ex.refl H4) (ev_var rfl) (fun H5 e5 => q r ws H5 hr1 (e3.trans (e4.trans e5)) ((e4.trans e5) _ _ hr) (allAt_mono hA fun v c h => pair_mono (e4.trans e5) h))

/-! ### good tokens -/
def IsTok (t : List Nat) : Prop := (t ≠ [] ∧ (∀ x ∈ t, isRun x = true) ∧ t.length ≤ 20) ∨ ∃ c, t = [c] ∧ isRun c = false ∧ isBlank c = false
def goodB (t : List Nat) : Bool := decide (t = [61]) || decide (t = [59]) || (isLet (t.getD 0 0) && decide (t.length ≤ 8))
theorem tok_ne {t : List Nat} (h : IsTok t) : t ≠ [] ∧ 0 < t.length ∧ t.length ≤ 20 := by
  rcases h with ⟨a, _, b⟩ | ⟨c, rfl, _⟩
  · exact ⟨a, List.length_pos_iff.mpr a, b⟩
  · exact ⟨List.cons_ne_nil _ _, Nat.zero_lt_one, by show 1 ≤ 20; decide⟩
theorem s_eqc : S [61] = ("=" : Str) ∧ S [59] = (";" : Str) := ⟨by decide +kernel, by decide +kernel⟩
def sp_is_good (K : PySem.W.Frag) : Sp := fun vs H Q _ => ∃ t, vs = [.str (S t)] ∧ 0 < t.length ∧ t.length ≤ 50000 ∧ RetV (.bl (goodB t)) H Q
theorem inV_str {k x : Str} {r : List V} : inV (.str k) (.str x :: r) = (decide (k = x) || inV (.str k) r) := by
  show ((x == k) || _) = _
  by_cases h : k = x
  · subst h; simp
  · have e : (x == k) = false := by simpa using fun z => h z.symm
    rw [e, decide_eq_false h]; rfl
theorem ok_is_good (T : Top K mg w a) : FnOk P w K mg base CX0 1 a.f_is_good a.d_is_good ["token"] (sp_is_good K) := by
  refine T.F_is_good.ok sc_is_good (fun vs H Q E h => ?_) (fun cdv A outer s H vs Q E hr h => ?_)
  · obtain ⟨t, rfl, _⟩ := h
    rfl
  · obtain ⟨t, rfl, hp, hz, q⟩ := h
    refine ⟨_, (pss_cons (ps_if (pt_cmpR op_in_seq (pv 0) (pe_tup (pa_cons pe_str (pa_cons pe_str pa_nil))) (by rfl))
      (pss_one (ps_ret pe_bl))
      pss_nil)
      (pss_one (ps_ret (pe_and (pe_cmpR op_in_sign (pe_ix ix_str (pv 0) pe_int (fun _ _ => rfl)) (pe_const rfl T.c_LETTERS) (by rfl)) (pe_one (pe_cmpR op_le (pe_callB call_len_str (by rfl) T.z_len (by decide +kernel) (pa_cons (pv 0) pa_nil)) (pe_const rfl T.c_LONGEST_WORD) (nomark _))))))), ?_⟩
    have e1 : inV (.str (S t)) [.str "=", .str ";"] = (decide (t = [61]) || decide (t = [59])) := by
      rw [inV_str, inV_str, ← s_eqc.1, ← s_eqc.2]
      have f : ∀ m, decide (S t = S m) = decide (t = m) := fun m => by
        have := s_eq (l := t) (m := m)
        rw [dec_str] at this
        exact this
      rw [f, f]
      show (_ || (_ || false)) = _
      rw [Bool.or_false]
    refine a_when (Ex.refl H) (et_test (ev_is (ev_inU (ev_var rfl) (eu_tup (ea_cons ev_c (ea_cons ev_c ea_nil)) (by decide)) rfl rfl) (by rw [e1]))) (fun hb H1 e1 => ?_) (fun hb H1 e1 => ?_)
    · refine a_ret e1 ev_c ?_
      unfold goodB at q
      rw [hb] at q
      exact q
    · refine a_ret e1 (v := .bl (isLet (t.getD 0 0) && decide (t.length ≤ 8))) (ev_is (ev_andV (ev_op (ev_ixS (i := 0) (ev_var rfl) ev_c hp (by omega)) ev_c (rv_inC (mem_letters _))) fun _ => ev_op (ev_lenC (ev_var rfl) (by omega)) ev_c rv_I0) ?_) ?_
      · congr 2
        exact decide_eq_decide.mpr ⟨fun h => by omega, fun h => by omega⟩
      · unfold goodB at q
        rw [hb] at q
        exact q
def sp_law_in_run (K : PySem.W.Frag) : Sp := fun vs H Q _ => ∃ c, vs = [.str (S [c])] ∧ RetV (.bl (isRun c)) H Q
theorem ok_law_in_run (T : Top K mg w a) : FnOk P w K mg base CX0 1 a.f_law_in_run a.d_law_in_run ["char"] (sp_law_in_run K) := by
  refine T.F_law_in_run.ok sc_law_in_run (fun vs H Q E h => ?_) (fun cdv A outer s H vs Q E hr h => ?_)
  · obtain ⟨c, rfl, _⟩ := h
    rfl
  · obtain ⟨c, rfl, q⟩ := h
    refine ⟨_, (pss_one (ps_ret (pe_cmpR op_in_sign (pv 0) pe_str (by rfl)))), ?_⟩
    exact a_ret (Ex.refl H) (ev_op (ev_var rfl) ev_c (rv_inC (mem_both c))) q
def sp_law_run (K : PySem.W.Frag) : Sp := fun vs H Q _ => ∃ (c s : Int) (n : Nat), vs = [.int c, .int s, .int (n : Int)] ∧ n ≤ 20 ∧ 0 ≤ s ∧ s < 1000 ∧ ∀ t : List Nat, t.length = n → (∀ x ∈ t, isRun x = true) → RetV (.str (S t)) H Q
theorem letters_run (j : Nat) (h : j < 36) : isRun (("abcdefghijklmnopqrstuvwxyz0123456789" : Str).cps.toList.getD j 0) = true := by
  rw [← mem_both]
  refine decide_eq_true ?_
  have e : ("abcdefghijklmnopqrstuvwxyz0123456789" : Str).cps.toList.length = 36 := by decide +kernel
  rw [List.getD_eq_getElem?_getD, List.getElem?_eq_getElem (by omega)]
  exact List.getElem_mem _
theorem s_of (z : Str) : S z.cps.toList = z := by
  unfold S
  simp
theorem ok_law_run (T : Top K mg w a) : FnOk P w K mg base CX0 1 a.f_law_run a.d_law_run ["code", "step", "length"] (sp_law_run K) := by
  refine T.F_law_run.ok sc_law_run (fun vs H Q E h => ?_) (fun cdv A outer s H vs Q E hr h => ?_)
  · obtain ⟨c, s', n, rfl, _⟩ := h
    rfl
  · obtain ⟨c, s', n, rfl, hn, hs0, hs1, q⟩ := h
    refine ⟨_, (pss_cons (ps_set (i := 3) sc_law_run.nd rfl (Or.inl rfl) pe_str)
      (pss_cons (ps_set (i := 4) sc_law_run.nd rfl (Or.inl rfl) pe_str)
      (pss_cons (ps_for PassesOwn.never rfl (pi_range1 rfl T.z_range (pa_cons (pv 2) pa_nil)) (pg_name (i := 5) sc_law_run.nd rfl (Or.inl rfl))
      (pss_cons (ps_set (i := 4) sc_law_run.nd rfl (Or.inl rfl) (pe_op op_add_str (pv 4) (pe_ix ix_str (pv 3) (pe_op op_mod (pe_callTy call_int1 (by rfl) T.z_int (by decide +kernel) (pa_cons (pe_op op_add (pv 0) (pe_op op_mul (pv 5) (pv 1))) pa_nil)) pe_int) (fun _ _ => rfl))))
      (pss_one (ps_set (i := 0) sc_law_run.nd rfl (Or.inl rfl) (pe_op op_fdivW (pv 0) pe_int)))))
      (pss_one (ps_ret (pv 4)))))), ?_⟩
    have e36 : ("abcdefghijklmnopqrstuvwxyz0123456789" : Str).cps.toList.length = 36 := by decide +kernel
    refine a_set (Ex.refl H) ev_c (fun H1 e1 => ?_)
    refine a_set (v := .str (S [])) e1 (ev_is ev_c (by congr 1)) (fun H2 e2 => ?_)
    refine a_forR (n := (n : Int)) e2 (ea_cons (ev_var rfl) ea_nil) ⟨by omega, by omega⟩
      (fun i σ' H' => ∃ (c : Int) (t : List Nat) (y : Option V), σ' = [some (.int c), some (.int s'), some (.int (n : Int)), some (.str (S ("abcdefghijklmnopqrstuvwxyz0123456789" : Str).cps.toList)), some (.str (S t)), y] ∧ t.length = i ∧ (∀ x ∈ t, isRun x = true) ∧ Ex H H')
      (fun H3 e3 => ⟨_, [], none, by rw [s_of]; rfl, rfl, fun x h => absurd h List.not_mem_nil, e3⟩) ?_ ?_
    · rintro i σ' H' hi ⟨c, t, y, rfl, hl, hr, e3⟩
      obtain ⟨j, hj⟩ : ∃ j : Nat, (c + (i : Int) * s') % 36 = (j : Int) := ⟨((c + (i : Int) * s') % 36).toNat, by have := Int.emod_nonneg (c + (i : Int) * s') (b := 36) (by decide); omega⟩
      have hj36 : j < 36 := by have := Int.emod_lt_of_pos (c + (i : Int) * s') (b := 36) (by decide); omega
      refine a_set e3 (v := .str (S (t ++ [("abcdefghijklmnopqrstuvwxyz0123456789" : Str).cps.toList.getD j 0]))) (ev_op (ev_var rfl) (ev_ixS (i := j) (ev_var rfl) (ev_is (ev_op (ev_int1 (ev_op (ev_var rfl) (ev_op (ev_var rfl) (ev_var rfl) (rv_I (.inl ⟨by omega, by omega⟩))) rv_I0)) ev_c (rv_I (by decide))) (by rw [hj])) (by omega) (by omega)) (rv_catS (by show t.length + 1 ≤ 100000; omega))) (fun H4 e4 => ?_)
      refine a_set1 e4 (ev_op (ev_var rfl) ev_c (rv_I (wide_div (b := 64) (by decide) (by decide) (by decide) (by decide)))) (fun H5 e5 => ⟨_, _, _, rfl, by rw [List.length_append, hl]; rfl, fun x hx => ?_, e5⟩)
      rcases List.mem_append.mp hx with h | h
      · exact hr x h
      · rw [List.mem_singleton.mp h]
        exact letters_run j hj36
    · rintro σ' H' ⟨c, t, y, rfl, hl, hr, e3⟩
      exact a_ret e3 (ev_var rfl) (fun H4 e4 => q t (by omega) hr H4 e4)
def signsL : Str := "=;!\"#$&'()*+,-./:<>?@ABCDEFGHIJKLMNOPQRSTUVWXYZ[\\]^_`{|}~"
theorem signs_ok : ∀ x ∈ signsL.cps.toList, isRun x = false ∧ isBlank x = false := by decide +kernel
theorem signs_len : signsL.cps.toList.length = 57 := by decide +kernel
def sp_law_token (K : PySem.W.Frag) : Sp := fun vs H Q _ => ∃ (l : Addr) (ps : List Int), vs = [.ref l] ∧ SqL K H l (ps.map V.int) ∧ 5 ≤ ps.length ∧ 0 ≤ ps.getD 0 0 ∧ (0 ≤ ps.getD 2 0 ∧ ps.getD 2 0 < 36) ∧ (0 ≤ ps.getD 3 0 ∧ ps.getD 3 0 < 12) ∧ ∀ t, IsTok t → RetV (.str (S t)) H Q
theorem ev_litS {σ : L2.St} {G : Hp} {i : Nat} {z : Str} (h : σ[i]? = some (some (.str z))) : Ev (tVar i) σ G (.str (S z.cps.toList)) := by
  rw [s_of]
  exact ev_var h
theorem sign_at {j : Nat} (h : j < 57) : IsTok [signsL.cps.toList.getD j 0] := by
  have hm : signsL.cps.toList.getD j 0 ∈ signsL.cps.toList := by
    rw [List.getD_eq_getElem?_getD, List.getElem?_eq_getElem (by rw [signs_len]; exact h)]
    exact List.getElem_mem _
  exact .inr ⟨_, rfl, signs_ok _ hm⟩
theorem ok_law_token (T : Top K mg w a) : FnOk P w K mg base CX0 2 a.f_law_token a.d_law_token ["parts"] (sp_law_token K) := by
  refine T.F_law_token.ok sc_law_token (fun vs H Q E h => ?_) (fun cdv A outer s H vs Q E hr h => ?_)
  · obtain ⟨l, ps, rfl, _⟩ := h
    rfl
  · obtain ⟨l, ps, rfl, hS, h5, p0, p2, p3, q⟩ := h
    refine ⟨_, (pss_cons (ps_if (pt_cmpR op_lt (pe_ix ix_list (pv 0) pe_int (fun _ _ => rfl)) pe_int (nomark _))
      (pss_one (ps_ret (pe_call (ok_law_run T) (hr.mono (by decide)) (by rfl) T.g_law_run T.F_law_run.kp T.b_law_run .nil pass0 (pa_cons (pe_ix ix_list (pv 0) pe_int (fun _ _ => rfl)) (pa_cons (pe_ix ix_list (pv 0) pe_int (fun _ _ => rfl)) (pa_cons (pe_op op_add pe_int (pe_ix ix_list (pv 0) pe_int (fun _ _ => rfl))) pa_nil))))))
      pss_nil)
      (pss_cons (ps_set (i := 1) sc_law_token.nd rfl (Or.inl rfl) pe_str)
      (pss_cons (ps_if (pt_cmpR op_lt (pe_ix ix_list (pv 0) pe_int (fun _ _ => rfl)) pe_int (nomark _))
      (pss_one (ps_ret (pe_ix ix_str (pv 1) (pe_op op_sub (pe_ix ix_list (pv 0) pe_int (fun _ _ => rfl)) pe_int) (fun _ _ => rfl))))
      pss_nil)
      (pss_one (ps_ret (pe_ix ix_str (pv 1) (pe_op op_mod (pe_callTy call_int1 (by rfl) T.z_int (by decide +kernel) (pa_cons (pe_ix ix_list (pv 0) pe_int (fun _ _ => rfl)) pa_nil)) (pe_callB call_len_str (by rfl) T.z_len (by decide +kernel) (pa_cons (pv 1) pa_nil))) (fun _ _ => rfl))))))), ?_⟩
    have pat : ∀ {σ : L2.St} {G : Hp} {ta : TE} (k : Nat), k < 5 → Ex H G → Ev ta σ G (.ref l) → Ev (tOp (rIxL K) ta (tC (.int (k : Int)))) σ G (.int (ps.getD k 0)) := fun k hk e h => ev_op h ev_c (rv_ixL (ex_l e hS) (at_map (by omega)))
    refine a_when (Ex.refl H) (et_test (ev_op (pat 0 (by decide) (Ex.refl H) (ev_var rfl)) ev_c rv_I0)) (fun hb H1 e1 => ?_) (fun hb H1 e1 => ?_)
    · obtain ⟨n, hn⟩ : ∃ n : Nat, 1 + ps.getD 3 0 = (n : Int) := ⟨(1 + ps.getD 3 0).toNat, by omega⟩
      refine a_retP e1 (P := fun v _ => ∃ t, v = .str (S t) ∧ IsTok t) (ep_call (ea_cons (pat 1 (by decide) (Ex.refl H) (ev_var rfl)) (ea_cons (pat 2 (by decide) (Ex.refl H) (ev_var rfl)) (ea_cons (ev_is (ev_op ev_c (pat 3 (by decide) (Ex.refl H) (ev_var rfl)) rv_I0) (by rw [hn])) ea_nil))) fun H2 x2 Q q E => ⟨_, _, n, rfl, by omega, p2.1, by omega, fun t hl hr H3 e3 => q _ H3 e3 ⟨t, rfl, .inl ⟨fun z => by subst z; have : (0 : Nat) = n := hl; omega, hr, by omega⟩⟩⟩) (fun v H2 e2 hv => ?_)
      obtain ⟨t, rfl, ht⟩ := hv
      exact q t ht H2 e2
    have hb := of_decide_eq_false hb
    refine a_set e1 (v := .str signsL) ev_c (fun H2 e2 => ?_)
    refine a_when e2 (et_test (ev_op (pat 0 (by decide) (Ex.refl H) (ev_var rfl)) ev_c rv_I0)) (fun hb2 H3 e3 => ?_) (fun hb2 H3 e3 => ?_)
    · have hb2 := of_decide_eq_true hb2
      obtain ⟨j, hj⟩ : ∃ j : Nat, ps.getD 0 0 - 6 = (j : Int) := ⟨(ps.getD 0 0 - 6).toNat, by omega⟩
      exact a_ret e3 (ev_ixS (i := j) (ev_litS rfl) (ev_is (ev_op (pat 0 (by decide) (Ex.refl H) (ev_var rfl)) ev_c rv_I0) (by rw [hj])) (by rw [signs_len]; omega) (by rw [signs_len]; decide)) (q _ (sign_at (by omega)))
    · obtain ⟨j, hj⟩ : ∃ j : Nat, ps.getD 4 0 % ((57 : Nat) : Int) = (j : Int) := ⟨(ps.getD 4 0 % ((57 : Nat) : Int)).toNat, by have := Int.emod_nonneg (ps.getD 4 0) (b := ((57 : Nat) : Int)) (by decide); omega⟩
      have hj58 : j < 57 := by have := Int.emod_lt_of_pos (ps.getD 4 0) (b := ((57 : Nat) : Int)) (by decide); omega
      exact a_ret e3 (ev_ixS (i := j) (ev_litS rfl) (ev_is (ev_op (ev_int1 (pat 4 (by decide) (Ex.refl H) (ev_var rfl))) (ev_lenC (ev_litS rfl) (by rw [signs_len]; decide)) (rv_I (by rw [signs_len]; decide))) (by rw [signs_len, hj])) (by rw [signs_len]; omega) (by rw [signs_len]; decide)) (q _ (sign_at hj58))
def sp_law_good (K : PySem.W.Frag) : Sp := fun vs H Q _ => ∃ t, vs = [.str (S t)] ∧ IsTok t ∧ RetV (.bl (goodB t)) H Q
theorem ok_law_good (T : Top K mg w a) : FnOk P w K mg base CX0 2 a.f_law_good a.d_law_good ["token"] (sp_law_good K) := by
  refine T.F_law_good.ok sc_law_good (fun vs H Q E h => ?_) (fun cdv A outer s H vs Q E hr h => ?_)
  · obtain ⟨t, rfl, _⟩ := h
    rfl
  · obtain ⟨t, rfl, ht, q⟩ := h
    refine ⟨_, (pss_cons (ps_if (PW.pt (pw_and (pt_cmpR op_eq (pe_callB call_len_str (by rfl) T.z_len (by decide +kernel) (pa_cons (pv 0) pa_nil)) pe_int (nomark _)) (pw_and1 (pt_not (pt_val (pe_call (ok_law_in_run T) (hr.mono (by decide)) (by rfl) T.g_law_in_run T.F_law_in_run.kp T.b_law_in_run .nil pass0 (pa_cons (pv 0) pa_nil)))))))
      (pss_one (ps_ret (pe_cmpR op_in_sign (pv 0) pe_str (by rfl))))
      pss_nil)
      (pss_one (ps_ret (pe_and (pe_cmpR op_notIn_sign (pe_ix ix_str (pv 0) pe_int (fun _ _ => rfl)) pe_str (by rfl)) (pe_one (pe_cmpR op_le (pe_callB call_len_str (by rfl) T.z_len (by decide +kernel) (pa_cons (pv 0) pa_nil)) pe_int (nomark _))))))), ?_⟩
    obtain ⟨t0, t1, t2⟩ := tok_ne ht
    rcases ht with ⟨_, hr, _⟩ | ⟨c, rfl, hc1, hc2⟩
    · have h0 : isRun (t.getD 0 0) = true := hr _ (by
        rw [List.getD_eq_getElem?_getD, List.getElem?_eq_getElem t1]
        exact List.getElem_mem _)
      have hfin : ∀ {H1 : Hp}, Ex H H1 → tRet (tAndV (tOp (fun x y H Q => ∃ (c : Nat) (z : Str), x = V.str ⟨#[c]⟩ ∧ y = V.str z ∧ Q (V.bl (!decide (c ∈ z.cps.toList))) H) (tOp rIxS (tVar 0) (tC (.int 0))) (tC (.str "0123456789"))) (tOp (rI0 fun i j => .bl (decide (i ≤ j))) (tCB (fun xs H Q => ∃ z : Str, xs = [V.str z] ∧ z.length ≤ sizeLine ∧ Q (.int z.length) H) (tCons (tVar 0) tNil)) (tC (.int 8)))) { nx := fun _ H' => Q .non H', rt := Q } [some (.str (S t))] H1 := fun {H1} e1 => by
        refine a_ret (G := H1) (Ex.refl H1) (v := .bl (goodB t)) (ev_is (ev_andV (ev_op (ev_ixS (i := 0) (ev_var rfl) ev_c t1 (by omega)) ev_c (rv_niC (mem_digits _))) fun _ => ev_op (ev_lenC (ev_var rfl) (by omega)) ev_c rv_I0) ?_) (fun H2 e2 => q H2 (e1.trans e2))
        have n1 : decide (t = [61]) = false := decide_eq_false fun z => by
          subst z
          have := hr 61 (List.mem_singleton.mpr rfl)
          revert this
          decide
        have n2 : decide (t = [59]) = false := decide_eq_false fun z => by
          subst z
          have := hr 59 (List.mem_singleton.mpr rfl)
          revert this
          decide
        unfold goodB
        rw [n1, n2, Bool.false_or, Bool.false_or]
        have e3 : (!isDig (t.getD 0 0)) = isLet (t.getD 0 0) := by
          unfold isRun at h0
          unfold isDig isLet
          generalize t.getD 0 0 = c at h0 ⊢
          by_cases a1 : 97 ≤ c <;> by_cases a2 : c ≤ 122 <;> by_cases a3 : 48 ≤ c <;> by_cases a4 : c ≤ 57 <;> simp [a1, a2, a3, a4] at h0 ⊢ <;> omega
        rw [e3]
        congr 2
        exact decide_eq_decide.mpr ⟨fun h => by omega, fun h => by omega⟩
      by_cases hl : t.length = 1
      · obtain ⟨x, rfl⟩ : ∃ x, t = [x] := by
          match t, hl with
          | [x], _ => exact ⟨x, rfl⟩
        have hx : isRun x = true := h0
        exact a_when (Ex.refl H) (b := false) (et_is (et_and (b := false) (et_test (ev_op (ev_lenC (ev_var rfl) (by show 1 ≤ 100000; decide)) ev_c (rv_eq rfl))) fun h => et_is (et_not (et_B (ev_call1 (z := .bl (isRun x)) (ea_cons (ev_var rfl) ea_nil) fun H1 _ Q hq E => ⟨x, rfl, hq⟩))) (by rw [hx]; rfl)) (Bool.and_false _)) (fun hb => nomatch hb) (fun _ H1 e1 => hfin e1)
      · exact a_when (Ex.refl H) (b := false) (et_is (et_and (b := false) (et_test (ev_op (ev_lenC (ev_var rfl) (by omega)) ev_c (rv_eq rfl))) fun h => absurd (of_decide_eq_true h) (fun z => hl (by have := V.int.inj z; omega))) (Bool.and_false _)) (fun hb => nomatch hb) (fun _ H1 e1 => hfin e1)
    · refine a_when (Ex.refl H) (b := true) (et_is (et_and (b := true) (et_test (ev_op (ev_lenC (ev_var rfl) (by show 1 ≤ 100000; decide)) ev_c (rv_eq rfl))) fun h => et_is (et_not (et_B (ev_call1 (z := .bl (isRun c)) (ea_cons (ev_var rfl) ea_nil) fun H1 _ Q hq E => ⟨c, rfl, hq⟩))) (by rw [hc1]; rfl)) rfl) (fun _ H1 e1 => ?_) (fun hb => nomatch hb)
      refine a_ret e1 (v := .bl (goodB [c])) (ev_op (ev_var rfl) ev_c (rv_inC ?_)) q
      have e5 : ("=;" : Str).cps.toList = [61, 59] := by decide +kernel
      rw [e5]
      unfold goodB
      have e6 : isLet (([c] : List Nat).getD 0 0) = false := by
        show isLet c = false
        unfold isRun at hc1
        unfold isLet
        simp at hc1 ⊢
        omega
      rw [e6]
      by_cases a1 : c = 61 <;> by_cases a2 : c = 59 <;> simp [a1, a2]
def charsL : Str := " !\"#$&'()*+,-./0123456789:;<=>?@ABCDEFGHIJKLMNOPQRSTUVWXYZ[\\]^_`"
def charsM : Str := "abcdefghijklmnopqrstuvwxyz{|}~\n"
def sp_law_char (K : PySem.W.Frag) : Sp := fun vs H Q _ => ∃ (n : Int), vs = [.int n] ∧ ∀ c : Nat, RetV (.str (S [c])) H Q
theorem ok_law_char (T : Top K mg w a) : FnOk P w K mg base CX0 1 a.f_law_char a.d_law_char ["number"] (sp_law_char K) := by
  refine T.F_law_char.ok sc_law_char (fun vs H Q E h => ?_) (fun cdv A outer s H vs Q E hr h => ?_)
  · obtain ⟨n, rfl, _⟩ := h
    rfl
  · obtain ⟨n, rfl, q⟩ := h
    refine ⟨_, (pss_cons (ps_set (i := 1) sc_law_char.nd rfl (Or.inl rfl) pe_str)
      (pss_cons (ps_set (i := 1) sc_law_char.nd rfl (Or.inl rfl) (pe_op op_add_str (pv 1) pe_str))
      (pss_one (ps_ret (pe_ix ix_str (pv 1) (pe_op op_mod (pe_callTy call_int1 (by rfl) T.z_int (by decide +kernel) (pa_cons (pv 0) pa_nil)) (pe_callB call_len_str (by rfl) T.z_len (by decide +kernel) (pa_cons (pv 1) pa_nil))) (fun _ _ => rfl)))))), ?_⟩
    have e1 : charsL.cps.toList.length = 64 := by decide +kernel
    have e2 : charsM.cps.toList.length = 31 := by decide +kernel
    refine a_set (Ex.refl H) (v := .str charsL) ev_c (fun H2 e2 => ?_)
    refine a_set e2 (v := .str (S (charsL.cps.toList ++ charsM.cps.toList))) (ev_op (x := .str (S charsL.cps.toList)) (y := .str (S charsM.cps.toList)) (ev_litS rfl) (ev_is (v := .str charsM) ev_c (by rw [s_of])) (rv_catS (by decide +kernel))) (fun H3 e3 => ?_)
    have hlen : (charsL.cps.toList ++ charsM.cps.toList).length = 95 := by decide +kernel
    generalize charsL.cps.toList ++ charsM.cps.toList = cs at e3 hlen
    obtain ⟨j, hj⟩ : ∃ j : Nat, n % ((95 : Nat) : Int) = (j : Int) := ⟨(n % ((95 : Nat) : Int)).toNat, by have := Int.emod_nonneg n (b := ((95 : Nat) : Int)) (by decide); omega⟩
    have hj95 : j < 95 := by have := Int.emod_lt_of_pos n (b := ((95 : Nat) : Int)) (by decide); omega
    exact a_ret e3 (ev_ixS (i := j) (ev_var rfl) (ev_is (ev_op (ev_int1 (ev_var rfl)) (ev_lenC (ev_var rfl) (by omega)) (rv_I (by rw [hlen]; decide))) (by rw [hlen, hj])) (by omega) (by omega)) (q _)
def sp_law_pairs (K : PySem.W.Frag) : Sp := fun vs H Q _ => ∃ (l : List Nat), vs = [.str (S l)] ∧ l.length ≤ 50000 ∧ ∀ p ws H2, H p = none → Ex H H2 → H2 p = some (.lst ws) → AllAt (PairAt K H2) ws (TK l) → Q (.ref p) H2
theorem joins_take {l : List Nat} {k : Nat} (hk : k < l.length) : joins (l.take k) (l.getD k 0) = (decide (0 < k) && (isRun (l.getD k 0) && isRun (l.getD (k - 1) 0))) := by
  unfold joins
  by_cases k0 : k = 0
  · subst k0; rfl
  · have : (l.take k).getLast? = some (l.getD (k - 1) 0) := by
      have hlen : (l.take k).length = k := by rw [List.length_take]; omega
      rw [List.getLast?_eq_getElem?, hlen, List.getElem?_take_of_lt (by omega), List.getElem?_eq_getElem (by omega), List.getD_eq_getElem?_getD, List.getElem?_eq_getElem (by omega)]
      rfl
    rw [this, decide_eq_true (by omega)]
    rfl
theorem set_lastV (v x : V) : ∀ ws : List V, (ws ++ [x]).set ws.length v = ws ++ [v]
  | [] => rfl
  | y :: r => congrArg (y :: ·) (set_lastV v x r)
/-- there is a last token where a run goes on -/
theorem tk_last {l : List Nat} (h : l ≠ []) (hr : isRun (l.getLast h) = true) : ∃ acc p t, TK l = acc ++ [(p, t)] ∧ p + t.length ≤ l.length := by
  have e : l = l.dropLast ++ [l.getLast h] := (List.dropLast_concat_getLast h).symm
  have g : ∀ (n : Nat) (m : List Nat) (c : Nat), m.length = n → isRun c = true → ∃ acc p t, TK (m ++ [c]) = acc ++ [(p, t)] ∧ p + t.length ≤ m.length + 1 := by
    intro n
    induction n with
    | zero =>
      intro m c hm hc
      have := List.eq_nil_of_length_eq_zero hm
      subst this
      refine ⟨[], 0, [c], ?_, by show 0 + 1 ≤ 0 + 1; decide⟩
      rw [tk_snoc]
      unfold stepT
      rw [show joins [] c = false from rfl, run_blank hc]
      rfl
    | succ n ih =>
      intro m c hm hc
      rw [tk_snoc]
      unfold stepT
      by_cases hj : joins m c = true
      · rw [if_pos hj]
        have hm0 : m ≠ [] := fun z => by subst z; cases hm
        have hl : isRun (m.getLast hm0) = true := by
          unfold joins at hj
          rw [List.getLast?_eq_getLast hm0] at hj
          have : (isRun c && isRun (m.getLast hm0)) = true := hj
          simp at this
          exact this.2
        obtain ⟨acc, p, t, e1, e2⟩ := ih m.dropLast (m.getLast hm0) (by rw [List.length_dropLast]; omega) hl
        rw [List.dropLast_concat_getLast] at e1
        rw [e1, extL_snoc]
        refine ⟨acc, p, t ++ [c], rfl, ?_⟩
        rw [List.length_dropLast] at e2
        rw [List.length_append, List.length_singleton]
        omega
      · rw [if_neg hj, run_blank hc, if_neg Bool.false_ne_true]
        exact ⟨TK m, m.length, [c], rfl, by rw [List.length_singleton]; exact Nat.le_refl _⟩
  obtain ⟨acc, p, t, e1, e2⟩ := g _ l.dropLast (l.getLast h) rfl hr
  rw [← e] at e1
  refine ⟨acc, p, t, e1, ?_⟩
  rw [List.length_dropLast] at e2
  have := List.length_pos_iff.mpr h
  omega
theorem ok_law_pairs (T : Top K mg w a) : FnOk P w K mg base CX0 2 a.f_law_pairs a.d_law_pairs ["text"] (sp_law_pairs K) := by
  refine T.F_law_pairs.ok sc_law_pairs (fun vs H Q E h => ?_) (fun cdv A outer s H vs Q E hr h => ?_)
  · obtain ⟨l, rfl, _⟩ := h
    rfl
  · obtain ⟨l, rfl, hz, q⟩ := h
    refine ⟨_, (pss_cons (ps_set (i := 1) sc_law_pairs.nd rfl (Or.inl rfl) (pe_lst pa_nil))
      (pss_cons (ps_for PassesOwn.never rfl (pi_range1 rfl T.z_range (pa_cons (pe_callB call_len_str (by rfl) T.z_len (by decide +kernel) (pa_cons (pv 0) pa_nil)) pa_nil)) (pg_name (i := 2) sc_law_pairs.nd rfl (Or.inl rfl))
      (pss_cons (ps_set (i := 3) sc_law_pairs.nd rfl (Or.inl rfl) (pe_and (pe_cmpR op_gt (pv 2) pe_int (nomark _)) (pe_and (pe_call (ok_law_in_run T) (hr.mono (by decide)) (by rfl) T.g_law_in_run T.F_law_in_run.kp T.b_law_in_run .nil pass0 (pa_cons (pe_ix ix_str (pv 0) (pv 2) (fun _ _ => rfl)) pa_nil)) (pe_one (pe_call (ok_law_in_run T) (hr.mono (by decide)) (by rfl) T.g_law_in_run T.F_law_in_run.kp T.b_law_in_run .nil pass0 (pa_cons (pe_ix ix_str (pv 0) (pe_op op_sub (pv 2) pe_int) (fun _ _ => rfl)) pa_nil))))))
      (pss_one (ps_if (pt_val (pv 3))
      (pss_one (ps_asg (pe_tup (pa_cons (pe_ix ix_tup (pe_ix ix_list (pv 1) (pe_un un_neg pe_int) (fun _ _ => rfl)) pe_int (fun _ _ => rfl)) (pa_cons (pe_op op_add_str (pe_ix ix_tup (pe_ix ix_list (pv 1) (pe_un un_neg pe_int) (fun _ _ => rfl)) pe_int (fun _ _ => rfl)) (pe_ix ix_str (pv 0) (pv 2) (fun _ _ => rfl))) pa_nil))) (pg_sub (pv 1) (pe_un un_neg pe_int) set_list)))
      (pss_one (ps_if (pt_cmpR op_notIn_sign (pe_ix ix_str (pv 0) (pv 2) (fun _ _ => rfl)) pe_str (by rfl))
      (pss_one (ps_expr (pe_bm PySem.F.plainAttrs_list PySem.F.slot_list_append PySem.F.type_list_append mt_append (pv 1) (pa_cons (pe_tup (pa_cons (pv 2) (pa_cons (pe_ix ix_str (pv 0) (pv 2) (fun _ _ => rfl)) pa_nil))) pa_nil))))
      pss_nil))))))
      (pss_one (ps_ret (pv 1))))), ?_⟩
    refine a_setL (Ex.refl H) (el_lst ea_nil (by decide)) (fun r H1 hr1 e1 => ?_)
    refine a_forR (n := (l.length : Int)) e1 (ea_cons (ev_lenC (ev_var rfl) (by omega)) ea_nil) ⟨by omega, by omega⟩
      (fun i σ' H' => ∃ (y z : Option V) (ws : List V), σ' = [some (.str (S l)), some (.ref r), y, z] ∧ AllAt (PairAt K H') ws (TK (l.take i)) ∧ H' r = some (.lst ws) ∧ Ex H H')
      (fun H2 e2 => ⟨none, none, [], rfl, ⟨rfl, fun i v c h => by cases h⟩, e2 _ _ upd_same, (Ex.new hr1).trans e2⟩) ?_ ?_
    · rintro i σ' H' hi ⟨y, z, ws, rfl, hA, hr, e2⟩
      have hil : i < l.length := by omega
      have hsp : l.take (i + 1) = l.take i ++ [l.getD i 0] := by
        rw [List.take_add_one, List.getElem?_eq_getElem hil, List.getD_eq_getElem?_getD, List.getElem?_eq_getElem hil]
        rfl
      have hlen : (l.take i).length = i := by rw [List.length_take]; omega
      have hst : TK (l.take (i + 1)) = stepT (TK (l.take i)) (l.take i) (l.getD i 0) := by rw [hsp, tk_snoc]
      have hjt := joins_take hil
      have ir : ∀ {σ : L2.St} {G : Hp} {E : XK} {ta : TE} {c : Nat}, Ev ta σ G (.str (S [c])) → Ev (tCall (sp_law_in_run K) [] E (tCons ta tNil)) σ G (.bl (isRun c)) := fun h => ev_call1 (ea_cons h ea_nil) fun H1 _ Q hq E => ⟨_, rfl, hq⟩
      have hwl : ws.length ≤ 50000 := by
        rw [hA.1]
        have := tk_len (l.take i)
        omega
      refine a_set (Ex.refl H') (v := .bl (joins (l.take i) (l.getD i 0))) (ev_is (ev_andV (b := isRun (l.getD i 0) && isRun (l.getD (i - 1) 0)) (ev_op (ev_var rfl) ev_c rv_I0) fun h0 => ev_andV (ir (ev_ixS (ev_var rfl) (ev_var rfl) hil (by omega))) fun _ => ir (ev_ixS (i := i - 1) (ev_var rfl) (ev_is (ev_op (ev_var rfl) ev_c rv_I0) (by have := of_decide_eq_true h0; congr 1; omega)) (by omega) (by omega))) (by
        rw [hjt]
        congr 2
        exact decide_eq_decide.mpr ⟨fun h => by omega, fun h => by omega⟩)) (fun H3 e3 => ?_)
      have hA3 : AllAt (PairAt K H3) ws (TK (l.take i)) := allAt_mono hA fun v c h => pair_mono e3 h
      have hr3 := e3 _ _ hr
      unfold stepT at hst
      refine a_if (Ex.refl H3) (et_B (ev_var rfl)) (fun hb H4 e4 => ?_) (fun hb H4 e4 => ?_)
      · rw [hb, if_pos rfl] at hst
        have hi0 : 0 < i := by
          rw [hb] at hjt
          have := hjt.symm
          rw [Bool.and_eq_true] at this
          exact of_decide_eq_true this.1
        have hne : l.take i ≠ [] := fun z => by
          rw [z] at hlen
          exact absurd hlen.symm (by show i ≠ 0; omega)
        have hlr : isRun ((l.take i).getLast hne) = true := by
          unfold joins at hb
          rw [List.getLast?_eq_getLast hne] at hb
          have : (isRun (l.getD i 0) && isRun ((l.take i).getLast hne)) = true := hb
          simp at this
          exact this.2
        obtain ⟨acc, p, t, htk, hpt⟩ := tk_last hne hlr
        rw [htk, extL_snoc] at hst
        rw [htk] at hA3
        have hwne : 0 < ws.length := by rw [hA3.1, List.length_append, List.length_singleton]; omega
        obtain ⟨ws', w, rfl⟩ : ∃ ws' w, ws = ws' ++ [w] := ⟨ws.dropLast, ws.getLast (List.length_pos_iff.mp hwne), (List.dropLast_concat_getLast _).symm⟩
        have hwl2 : ws'.length = acc.length := by
          have := hA3.1
          rw [List.length_append, List.length_append, List.length_singleton, List.length_singleton] at this
          omega
        obtain ⟨pw, rfl, hpw⟩ : PairAt K H3 w (p, t) := hA3.2 ws'.length w (p, t) (by rw [List.getElem?_append_right (Nat.le_refl _), Nat.sub_self]; rfl) (by rw [hwl2, List.getElem?_append_right (Nat.le_refl _), Nat.sub_self]; rfl)
        have hneg : atI (ws' ++ [V.ref pw]) (-1) = some (.ref pw) := atI_last _ _
        have hS4 : SqL K H4 r (ws' ++ [V.ref pw]) := sq_of (e4 _ _ hr3)
        have hP4 := ex_t e4 hpw
        have wl : ∀ {σ : L2.St} {ta : TE}, Ev ta σ H4 (.ref r) → Ev (tOp (rIxL K) ta (tUn (rU fun i => .int (-i)) (tC (.int 1)))) σ H4 (.ref pw) := fun h => ev_op h (ev_un ev_c ru_neg) (rv_ixL hS4 hneg)
        refine a_setItP (mP := fun v H H2 e h => pair_mono e h) (G := H4) (k := ws'.length) (Ex.refl H4) (P := fun w H => PairAt K H w (p, t ++ [l.getD i 0])) (ep_pair (K := K) (ev_op (wl (ev_var rfl)) ev_c (rv_ixT hP4 rfl)) (ev_op (ev_op (wl (ev_var rfl)) ev_c (rv_ixT hP4 rfl)) (ev_ixS (ev_var rfl) (ev_var rfl) hil (by omega)) (rv_catS (by
          show t.length + 1 ≤ 100000
          rw [hlen] at hpt
          omega)))) (ev_var rfl) (e4 _ _ hr3) (ev_un ev_c ru_neg) (by
            rw [List.length_append, List.length_singleton]
            unfold ixN
            rw [if_neg (by decide), if_pos (by omega)]
            congr 1
            omega) (fun v H5 e5 hv => ?_)
        have hr5 := e5 _ _ (e4 _ _ hr3)
        rw [set_lastV]
        refine ⟨_, _, ws' ++ [v], rfl, ?_, upd_same, Ex.mut (e2.trans (e3.trans (e4.trans e5))) hr1⟩
        rw [hst]
        have hA' : AllAt (PairAt K H5) ws' acc := ⟨hwl2, fun j v c a b => pair_mono (e4.trans e5) (hA3.2 j v c (by rw [List.getElem?_append_left (List.getElem?_eq_some_iff.mp a).1]; exact a) (by rw [List.getElem?_append_left (List.getElem?_eq_some_iff.mp b).1]; exact b))⟩
        exact allAt_snoc (allAt_mono hA' fun v c h => pair_upd h hr5) (pair_upd hv hr5)
      · rw [hb, if_neg Bool.false_ne_true] at hst
        refine a_when1 (Ex.refl H4) (et_test (ev_op (ev_ixS (ev_var rfl) (ev_var rfl) hil (by omega)) ev_c (rv_niC (mem_blank _)))) (fun hb2 H5 e5 => ?_) (fun hb2 H5 e5 => ?_)
        · have hnb : isBlank (l.getD i 0) = false := by simpa using hb2
          rw [hnb, if_neg Bool.false_ne_true, hlen] at hst
          refine a_appP1 (Ex.refl H5) (ev_var rfl) (e5 _ _ (e4 _ _ hr3)) (ep_pair (K := K) (ev_var rfl) (ev_ixS (ev_var rfl) (ev_var rfl) hil (by omega))) (by omega) (fun v H7 e7 hv => ?_)
          have hr7 := e7 _ _ (e5 _ _ (e4 _ _ hr3))
          refine ⟨_, _, ws ++ [v], rfl, ?_, upd_same, Ex.mut (e2.trans (e3.trans (e4.trans (e5.trans e7)))) hr1⟩
          rw [hst]
          exact allAt_snoc (allAt_mono hA3 fun v c h => pair_upd (pair_mono (e4.trans (e5.trans e7)) h) hr7) (pair_upd hv hr7)
        · have hnb : isBlank (l.getD i 0) = true := by simpa using hb2
          rw [hnb, if_pos rfl] at hst
          refine ⟨_, _, ws, rfl, ?_, e5 _ _ (e4 _ _ hr3), e2.trans (e3.trans (e4.trans e5))⟩
          rw [hst]
          exact allAt_mono hA3 fun v c h => pair_mono (e4.trans e5) h
    · rintro σ' H' ⟨y, z, ws, rfl, hA, hr, e2⟩
      rw [Int.toNat_natCast, List.take_of_length_le (Nat.le_refl _)] at hA
      exact a_ret (Ex.refl H') (ev_var rfl) (fun H5 e5 => q r ws H5 hr1 (e2.trans e5) (e5 _ _ hr) (allAt_mono hA fun v c h => pair_mono e5 h))

def sp_law_same (K : PySem.W.Frag) : Sp := fun vs H Q _ => ∃ (p r : Addr) (ws us : List V) (cs : List Tok1), vs = [.ref p, .ref r] ∧ H p = some (.lst ws) ∧ H r = some (.lst us) ∧ AllAt (PairAt K H) ws cs ∧ AllAt (PairAt K H) us cs ∧ cs.length ≤ 50000 ∧ RetV (.bl true) H Q
theorem allAt_get {α : Type} {R : V → α → Prop} {vs : List V} {cs : List α} {i : Nat} (h : AllAt R vs cs) (hi : i < cs.length) : ∃ v c, vs[i]? = some v ∧ cs[i]? = some c ∧ R v c := by
  have h1 : vs[i]? = some (vs[i]'(by rw [h.1]; exact hi)) := List.getElem?_eq_getElem _
  have h2 : cs[i]? = some (cs[i]'hi) := List.getElem?_eq_getElem _
  exact ⟨_, _, h1, h2, h.2 i _ _ h1 h2⟩
theorem ok_law_same (T : Top K mg w a) : FnOk P w K mg base CX0 2 a.f_law_same a.d_law_same ["actual", "expected"] (sp_law_same K) := by
  refine T.F_law_same.ok sc_law_same (fun vs H Q E h => ?_) (fun cdv A outer s H vs Q E hr h => ?_)
  · obtain ⟨p, r, ws, us, cs, rfl, _⟩ := h
    rfl
  · obtain ⟨p, r, ws, us, cs, rfl, hp, hq, hA, hB, hz, q⟩ := h
    refine ⟨_, (pss_cons (ps_if (PW.pt (pw_or (pt_not (pt_val (pe_callB call_isi (by rfl) T.z_isinstance (by decide +kernel) (pa_cons (pv 0) (pa_cons (pe_bltn (v := .ty "list") (by rfl) T.z_list (by decide +kernel) rfl) pa_nil))))) (pw_or1 (pt_cmpR op_ne (pe_callB call_len_seq (by rfl) T.z_len (by decide +kernel) (pa_cons (pv 0) pa_nil)) (pe_callB call_len_seq (by rfl) T.z_len (by decide +kernel) (pa_cons (pv 1) pa_nil)) (nomark _)))))
      (pss_one (ps_ret pe_bl))
      pss_nil)
      (pss_cons (ps_for PassesOwn.never rfl (pi_range1 rfl T.z_range (pa_cons (pe_callB call_len_seq (by rfl) T.z_len (by decide +kernel) (pa_cons (pv 1) pa_nil)) pa_nil)) (pg_name (i := 2) sc_law_same.nd rfl (Or.inl rfl))
      (pss_cons (ps_set (i := 3) sc_law_same.nd rfl (Or.inl rfl) (pe_ix ix_list (pv 0) (pv 2) (fun _ _ => rfl)))
      (pss_cons (ps_if (PW.pt (pw_or (pt_not (pt_val (pe_callB call_isi (by rfl) T.z_isinstance (by decide +kernel) (pa_cons (pv 3) (pa_cons (pe_bltn (v := .ty "tuple") (by rfl) T.z_tuple (by decide +kernel) rfl) pa_nil))))) (pw_or1 (pt_cmpR op_ne (pe_callB call_len_seq (by rfl) T.z_len (by decide +kernel) (pa_cons (pv 3) pa_nil)) pe_int (nomark _)))))
      (pss_one (ps_ret pe_bl))
      pss_nil)
      (pss_cons (ps_if (PW.pt (pw_or (pt_not (pt_val (pe_call (ok_law_is_integer T) (hr.mono (by decide)) (by rfl) T.g_law_is_integer T.F_law_is_integer.kp T.b_law_is_integer .nil pass0 (pa_cons (pe_ix ix_tup (pv 3) pe_int (fun _ _ => rfl)) pa_nil)))) (pw_or1 (pt_not (pt_val (pe_callB call_isi (by rfl) T.z_isinstance (by decide +kernel) (pa_cons (pe_ix ix_tup (pv 3) pe_int (fun _ _ => rfl)) (pa_cons (pe_bltn (v := .ty "str") (by rfl) T.z_str (by decide +kernel) rfl) pa_nil))))))))
      (pss_one (ps_ret pe_bl))
      pss_nil)
      (pss_one (ps_if (PW.pt (pw_or (pt_cmpR op_ne (pe_ix ix_tup (pv 3) pe_int (fun _ _ => rfl)) (pe_ix ix_tup (pe_ix ix_list (pv 1) (pv 2) (fun _ _ => rfl)) pe_int (fun _ _ => rfl)) (nomark _)) (pw_or1 (pt_cmpR op_ne (pe_ix ix_tup (pv 3) pe_int (fun _ _ => rfl)) (pe_ix ix_tup (pe_ix ix_list (pv 1) (pv 2) (fun _ _ => rfl)) pe_int (fun _ _ => rfl)) (nomark _)))))
      (pss_one (ps_ret pe_bl))
      pss_nil))))))
      (pss_one (ps_ret pe_bl)))), ?_⟩
    have hl1 := hA.1
    have hl2 := hB.1
    refine a_when (Ex.refl H) (b := false) (et_is (et_or (et_not (et_B (ev_isiLst (ev_var rfl) hp))) fun _ => et_test (ev_op (ev_lenS (ev_var rfl) (sq_of hp)) (ev_lenS (ev_var rfl) (sq_of hq)) (rv_ne rfl))) (by rw [hl1, hl2]; simp)) (fun hb => nomatch hb) (fun _ H1 e1 => ?_)
    refine a_forR (n := (us.length : Int)) e1 (ea_cons (ev_lenS (ev_var rfl) (sq_of hq)) ea_nil) ⟨by omega, by omega⟩
      (fun i σ' H' => ∃ y z, σ' = [some (.ref p), some (.ref r), y, z] ∧ Ex H H') (fun H2 e2 => ⟨none, none, rfl, e2⟩) ?_ ?_
    · rintro i σ' H' hi ⟨y, z, rfl, e2⟩
      have hi2 : i < cs.length := by omega
      obtain ⟨v, c, hv, hc, pv, rfl, hP⟩ := allAt_get hA hi2
      obtain ⟨u, c', hu, hc', pu, rfl, hQ⟩ := allAt_get hB hi2
      rw [hc] at hc'
      obtain rfl := Option.some.inj hc'
      have hPs := ex_t e2 hP
      have hQs := ex_t e2 hQ
      have hps : SqL K H' p ws := ex_l e2 (sq_of hp)
      have hrs : SqL K H' r us := ex_l e2 (sq_of hq)
      refine a_set (Ex.refl H') (v := .ref pv) (ev_op (ev_var rfl) (ev_var rfl) (rv_ixL hps (atI_nat hv))) (fun H3 e3 => ?_)
      refine a_when e3 (b := false) (et_is (et_or (et_not (et_B (ev_isiTupS (ev_var rfl) hPs))) fun _ => et_test (ev_op (ev_lenT (ev_var rfl) hPs) ev_c (rv_ne rfl))) rfl) (fun hb => nomatch hb) (fun _ H4 e4 => ?_)
      refine a_when e4 (b := false) (et_is (et_or (et_not (et_B (ev_call1 (z := .bl true) (ea_cons (ev_op (ev_var rfl) ev_c (rv_ixT hPs rfl)) ea_nil) fun H1 _ Q qq E => ⟨_, rfl, qq⟩))) fun _ => et_not (et_B (ev_isiStr (ev_op (ev_var rfl) ev_c (rv_ixT hPs rfl))))) rfl) (fun hb => nomatch hb) (fun _ H5 e5 => ?_)
      refine a_when1 e5 (b := false) (et_is (et_or (et_test (ev_op (ev_op (ev_var rfl) ev_c (rv_ixT hPs rfl)) (ev_op (ev_op (ev_var rfl) (ev_var rfl) (rv_ixL hrs (atI_nat hu))) ev_c (rv_ixT hQs rfl)) (rv_ne rfl))) fun _ => et_test (ev_op (ev_op (ev_var rfl) ev_c (rv_ixT hPs rfl)) (ev_op (ev_op (ev_var rfl) (ev_var rfl) (rv_ixL hrs (atI_nat hu))) ev_c (rv_ixT hQs rfl)) (rv_ne rfl))) (by simp)) (fun hb => nomatch hb) (fun _ H6 e6 => ?_)
      exact ⟨_, _, rfl, e2.trans e6⟩
    · rintro σ' H' ⟨y, z, rfl, e2⟩
      exact a_ret e2 ev_c q

theorem ev_ofP {te : TE} {σ : L2.St} {G : Hp} {v : V} (h : EvP te σ G (fun w _ => w = v)) : Ev te σ G v := fun H1 e Q q => h H1 e _ fun w H2 e2 hw => by
  subst hw
  exact q H2 e2
def TokList (K : PySem.W.Frag) (l : List Nat) : V → Hp → Prop := fun v H => ∃ p ws, v = .ref p ∧ H p = some (.lst ws) ∧ AllAt (PairAt K H) ws (TK l)
theorem mono_tokList {K : PySem.W.Frag} {l : List Nat} : MonoP (TokList K l) := fun _ _ _ e ⟨p, ws, a, b, c⟩ => ⟨p, ws, a, e _ _ b, allAt_mono c fun _ _ h => pair_mono e h⟩
theorem ep_split {K : PySem.W.Frag} {σ : L2.St} {G : Hp} {te : TE} {E : XK} {l : List Nat} (h : Ev te σ G (.str (S l))) (hz : l.length ≤ 50000) : EvP (tCall (sp_split_tokens K) [] E (tCons te tNil)) σ G (TokList K l) :=
  ep_call (ea_cons h ea_nil) fun H1 _ Q q E => ⟨l, rfl, hz, fun p ws H2 _ e2 h2 hA => q _ H2 e2 ⟨p, ws, rfl, h2, hA⟩⟩
theorem ep_pairs {K : PySem.W.Frag} {σ : L2.St} {G : Hp} {te : TE} {E : XK} {l : List Nat} (h : Ev te σ G (.str (S l))) (hz : l.length ≤ 50000) : EvP (tCall (sp_law_pairs K) [] E (tCons te tNil)) σ G (TokList K l) :=
  ep_call (ea_cons h ea_nil) fun H1 _ Q q E => ⟨l, rfl, hz, fun p ws H2 _ e2 h2 hA => q _ H2 e2 ⟨p, ws, rfl, h2, hA⟩⟩
theorem ev_same {K : PySem.W.Frag} {σ : L2.St} {G : Hp} {ta tb : TE} {E : XK} {l : List Nat} (h1 : EvP ta σ G (TokList K l)) (h2 : EvP tb σ G (TokList K l)) (hz : l.length ≤ 50000) : Ev (tCall (sp_law_same K) [] E (tCons ta (tCons tb tNil))) σ G (.bl true) :=
  ev_ofP (ep_callP (eap_cons h1 mono_tokList (eap_cons h2 mono_tokList eap_nil)) fun vs H1 _ hR Q q E => by
    obtain ⟨v, r, rfl, ⟨p, ws, rfl, hp, hA⟩, ⟨u, r2, rfl, ⟨p2, us, rfl, hp2, hB⟩, rfl⟩⟩ := hR
    have := tk_len l
    exact ⟨p, p2, ws, us, TK l, rfl, hp, hp2, hA, hB, by omega, fun H2 e2 => q _ H2 e2 rfl⟩)
def blanksV : List V := [.str "", .str " ", .str "\n", .str "  ", .str " \n", .str "\n\n", .str ""]
def blanksN : List (List Nat) := [[], [32], [10], [32, 32], [32, 10], [10, 10], []]
theorem blanks_at (j : Nat) (h : j < 7) : blanksV[j]? = some (.str (S (blanksN.getD j []))) ∧ (∀ x ∈ blanksN.getD j [], isBlank x = true) ∧ (blanksN.getD j []).length ≤ 2 := by
  match j, h with
  | 0, _ => exact ⟨by decide +kernel, by decide, by decide⟩
  | 1, _ => exact ⟨by decide +kernel, by decide, by decide⟩
  | 2, _ => exact ⟨by decide +kernel, by decide, by decide⟩
  | 3, _ => exact ⟨by decide +kernel, by decide, by decide⟩
  | 4, _ => exact ⟨by decide +kernel, by decide, by decide⟩
  | 5, _ => exact ⟨by decide +kernel, by decide, by decide⟩
  | 6, _ => exact ⟨by decide +kernel, by decide, by decide⟩
theorem s_nil : S [] = ("" : Str) := by decide +kernel
theorem s_sp : S [32] = (" " : Str) := by decide +kernel
/-- one token more, behind blanks -/
theorem tk_tok (l b t : List Nat) (hb : ∀ x ∈ b, isBlank x = true) (ht : IsTok t) (hj : b = [] → joins l (t.getD 0 0) = false) : TK (l ++ b ++ t) = TK l ++ [((l ++ b).length, t)] := by
  rcases ht with ⟨h0, hr, _⟩ | ⟨c, rfl, hc1, hc2⟩
  · obtain ⟨c, r, rfl⟩ : ∃ c r, t = c :: r := by
      cases t with
      | nil => exact absurd rfl h0
      | cons c r => exact ⟨c, r, rfl⟩
    rw [tk_run (l ++ b) r c hr, tk_blanks l b hb]
    by_cases b0 : b = []
    · rw [b0, List.append_nil]
      exact hj b0
    · have hl : (l ++ b).getLast? = some (b.getLast b0) := by rw [List.getLast?_append, List.getLast?_eq_getLast b0]; rfl
      unfold joins
      rw [hl]
      simp [blank_run (hb _ (List.getLast_mem b0))]
  · rw [tk_sign (l ++ b) hc1 hc2, tk_blanks l b hb]

/-- parts = _law_parts(e, [sizes]) -/
theorem en_parts {σ : L2.St} {G : Hp} {ta tb : TE} {E : XK} {c : Int} {sizes : List Int} (h1 : Ev ta σ G (.int c)) (h2 : ∀ H1, Ex G H1 → EvL tb σ H1 (sizes.map V.int)) (hl : sizes.length ≤ 1000) (hp : ∀ s ∈ sizes, 0 < s ∧ s ≤ 1000000000) :
    EvN (tCall (sp_law_parts K) [] E (tCons ta (tCons tb tNil))) σ G (fun xs => ∃ ns, xs = ns.map V.int ∧ Draw ns sizes) :=
  en_callL h1 h2 fun p H1 _ hp1 Q q E => ⟨c, p, sizes, rfl, sq_of hp1, hl, hp, fun ns hd r H2 hr e2 h2 => q _ r H2 ⟨ns, rfl, hd⟩ hr e2 h2⟩
def spLaw (K : PySem.W.Frag) : Sp := fun vs H Q _ => ∃ (a : Addr) (ns : List Int), vs = [.ref a] ∧ SqL K H a (ns.map V.int) ∧ ns.length ≤ 63 ∧ ∀ H', Q (.bl true) H'

theorem a_setP1 {σ : L2.St} {G H : Hp} {te : TE} {D : Ends} {i : Nat} {P : V → Hp → Prop} (e : Ex G H) (h : EvP te σ G P) (k : ∀ v H1, Ex G H1 → P v H1 → D.nx (σ.set i (some v)) H1) : tAsg te (gName i) D σ H :=
  h H e _ fun v H1 e1 hP => k v H1 (e.trans e1) hP
theorem ep_have {σ : L2.St} {G : Hp} {te : TE} {v : V} {P : V → Hp → Prop} (h : Ev te σ G v) (m : MonoP P) (hP : P v G) : EvP te σ G P := fun H1 e Q q => h H1 e _ fun H2 e2 => q v H2 e2 (m _ _ _ (e.trans e2) hP)
/-- a text of n signs -/
def TxtN (n : Nat) : V → Hp → Prop := fun v _ => ∃ m : List Nat, v = .str (S m) ∧ m.length = n
theorem ep_char {K : PySem.W.Frag} {σ : L2.St} {G : Hp} {te : TE} {E : XK} {n : Int} (h : Ev te σ G (.int n)) : EvP (tCall (sp_law_char K) [] E (tCons te tNil)) σ G (TxtN 1) :=
  ep_call (ea_cons h ea_nil) fun H1 _ Q q E => ⟨n, rfl, fun c H2 e2 => q _ H2 e2 ⟨[c], rfl, rfl⟩⟩
theorem ep_cat {σ : L2.St} {G : Hp} {ta tb : TE} {n : Nat} (h1 : EvP ta σ G (TxtN n)) (h2 : EvP tb σ G (TxtN 1)) (hz : n + 1 ≤ 100000) : EvP (tOp (fun x y H Q => ∃ i j, x = V.str i ∧ y = V.str j ∧ i.length + j.length ≤ sizeLine ∧ Q (V.str (i ++ j)) H) ta tb) σ G (TxtN (n + 1)) := fun H1 e Q q =>
  h1 H1 e _ fun v H2 e2 ⟨m, hv, hm⟩ => h2 H2 (e.trans e2) _ fun u H3 e3 ⟨m', hu, hm'⟩ => by
    subst hv
    subst hu
    exact ⟨S m, S m', rfl, rfl, by rw [s_len, s_len, hm, hm']; exact sz_of hz, q _ H3 (e2.trans e3) ⟨m ++ m', by rw [s_app], by rw [List.length_append, hm, hm']⟩⟩
def lastRun (l : List Nat) : Bool := match l.getLast? with
  | none => false
  | some d => isRun d
theorem ev_lastS {σ : L2.St} {G : Hp} {ta : TE} {l : List Nat} (h1 : Ev ta σ G (.str (S l))) (h0 : l ≠ []) (hz : l.length ≤ 100000) : ∃ c, Ev (tOp rIxS ta (tUn (rU fun i => .int (-i)) (tC (.int 1)))) σ G (.str (S [c])) ∧ lastRun l = isRun c := by
  refine ⟨l.getLast h0, ev_op h1 (ev_un ev_c ru_neg) (rv_ixS (by rw [s_len]; exact hz) (by
    rw [s_cps]
    have e : l = l.dropLast ++ [l.getLast h0] := (List.dropLast_concat_getLast h0).symm
    have := atI_last l.dropLast (l.getLast h0)
    rw [← e] at this
    exact this)), ?_⟩
  unfold lastRun
  rw [List.getLast?_eq_getLast h0]
theorem joins_of (l : List Nat) (c : Nat) : joins l c = (lastRun l && isRun c) := by
  unfold joins lastRun
  cases l.getLast? with
  | none => rfl
  | some d => simp [Bool.and_comm]
theorem ok_law (T : Top K mg w a) : FnOk P w K mg base CX0 4 a.f_law a.d_law ["script"] (spLaw K) := by
  refine T.F_law.ok sc_law (fun vs H Q E h => ?_) (fun cdv A outer s H vs Q E hr h => ?_)
  · obtain ⟨l, ns, rfl, _⟩ := h
    rfl
  · obtain ⟨l, ns, rfl, hS, hlen, q⟩ := h
    refine ⟨_, (pss_cons (ps_set (i := 1) sc_law.nd rfl (Or.inl rfl) (pe_lst (pa_cons pe_str (pa_cons pe_str (pa_cons pe_str (pa_cons pe_str (pa_cons pe_str (pa_cons pe_str (pa_cons pe_str pa_nil)))))))))
      (pss_cons (ps_set (i := 2) sc_law.nd rfl (Or.inl rfl) pe_str)
      (pss_cons (ps_set (i := 3) sc_law.nd rfl (Or.inl rfl) pe_str)
      (pss_cons (ps_set (i := 4) sc_law.nd rfl (Or.inl rfl) (pe_lst pa_nil))
      (pss_cons (ps_for PassesOwn.never rfl (pi_list (pe_slice sl_list (pv 0) po_none (po_some pe_int))) (pg_name (i := 5) sc_law.nd rfl (Or.inl rfl))
      (pss_cons (ps_set (i := 6) sc_law.nd rfl (Or.inl rfl) (pe_call (ok_law_parts T) (hr.mono (by decide)) (by rfl) T.g_law_parts T.F_law_parts.kp T.b_law_parts .nil pass0 (pa_cons (pv 5) (pa_cons (pe_lst (pa_cons pe_int (pa_cons (pe_op op_pow pe_int pe_int) (pa_cons pe_int (pa_cons pe_int (pa_cons pe_int (pa_cons pe_int (pa_cons pe_int (pa_cons pe_int (pa_cons pe_int pa_nil)))))))))) pa_nil))))
      (pss_cons (ps_set (i := 7) sc_law.nd rfl (Or.inl rfl) (pe_call (ok_law_token T) (hr.mono (by decide)) (by rfl) T.g_law_token T.F_law_token.kp T.b_law_token .nil pass0 (pa_cons (pv 6) pa_nil)))
      (pss_cons (ps_set (i := 8) sc_law.nd rfl (Or.inl rfl) (pe_ix ix_list (pv 1) (pe_ix ix_list (pv 6) pe_int (fun _ _ => rfl)) (fun _ _ => rfl)))
      (Evl.pss_cut (ps_if (PW.pt (pw_and (pt_cmpR op_ne (pv 2) pe_str (nomark _)) (pw_and (pt_cmpR op_eq (pv 8) pe_str (nomark _)) (pw_and (pt_val (pe_call (ok_law_in_run T) (hr.mono (by decide)) (by rfl) T.g_law_in_run T.F_law_in_run.kp T.b_law_in_run .nil pass0 (pa_cons (pe_ix ix_str (pv 2) (pe_un un_neg pe_int) (fun _ _ => rfl)) pa_nil))) (pw_and1 (pt_val (pe_call (ok_law_in_run T) (hr.mono (by decide)) (by rfl) T.g_law_in_run T.F_law_in_run.kp T.b_law_in_run .nil pass0 (pa_cons (pe_ix ix_str (pv 7) pe_int (fun _ _ => rfl)) pa_nil))))))))
      (pss_one (ps_set (i := 8) sc_law.nd rfl (Or.inl rfl) pe_str))
      pss_nil)
      (pss_cons (ps_set (i := 2) sc_law.nd rfl (Or.inl rfl) (pe_op op_add_str (pv 2) (pv 8)))
      (pss_cons (ps_expr (pe_bm PySem.F.plainAttrs_list PySem.F.slot_list_append PySem.F.type_list_append mt_append (pv 4) (pa_cons (pe_tup (pa_cons (pe_callB call_len_str (by rfl) T.z_len (by decide +kernel) (pa_cons (pv 2) pa_nil)) (pa_cons (pv 7) pa_nil))) pa_nil)))
      (pss_cons (ps_set (i := 2) sc_law.nd rfl (Or.inl rfl) (pe_op op_add_str (pv 2) (pv 7)))
      (pss_one (ps_set (i := 3) sc_law.nd rfl (Or.inl rfl) (pe_op op_add_str (pe_op op_add_str (pe_op op_add_str (pv 3) (pe_call (ok_law_char T) (hr.mono (by decide)) (by rfl) T.g_law_char T.F_law_char.kp T.b_law_char .nil pass0 (pa_cons (pe_ix ix_list (pv 6) pe_int (fun _ _ => rfl)) pa_nil))) (pe_call (ok_law_char T) (hr.mono (by decide)) (by rfl) T.g_law_char T.F_law_char.kp T.b_law_char .nil pass0 (pa_cons (pe_ix ix_list (pv 6) pe_int (fun _ _ => rfl)) pa_nil))) (pe_call (ok_law_char T) (hr.mono (by decide)) (by rfl) T.g_law_char T.F_law_char.kp T.b_law_char .nil pass0 (pa_cons (pe_ix ix_list (pv 6) pe_int (fun _ _ => rfl)) pa_nil)))))))))))))
      (Evl.pss_cut (ps_if (pt_cmpR op_gt (pe_callB call_len_seq (by rfl) T.z_len (by decide +kernel) (pa_cons (pv 0) pa_nil)) pe_int (nomark _))
      (pss_one (ps_set (i := 2) sc_law.nd rfl (Or.inl rfl) (pe_op op_add_str (pv 2) (pe_ix ix_list (pv 1) (pe_op op_mod (pe_callTy call_int1 (by rfl) T.z_int (by decide +kernel) (pa_cons (pe_ix ix_list (pv 0) (pe_un un_neg pe_int) (fun _ _ => rfl)) pa_nil)) pe_int) (fun _ _ => rfl)))))
      pss_nil)
      (pss_cons (ps_if (PW.pt (pw_or (pt_not (pt_val (pe_call (ok_law_same T) (hr.mono (by decide)) (by rfl) T.g_law_same T.F_law_same.kp T.b_law_same .nil pass0 (pa_cons (pe_call (ok_split_tokens T) (hr.mono (by decide)) (by rfl) T.g_split_tokens T.F_split_tokens.kp T.b_split_tokens .nil pass0 (pa_cons (pv 2) pa_nil)) (pa_cons (pv 4) pa_nil))))) (pw_or1 (pt_not (pt_val (pe_call (ok_law_same T) (hr.mono (by decide)) (by rfl) T.g_law_same T.F_law_same.kp T.b_law_same .nil pass0 (pa_cons (pe_call (ok_split_tokens T) (hr.mono (by decide)) (by rfl) T.g_split_tokens T.F_split_tokens.kp T.b_split_tokens .nil pass0 (pa_cons (pv 3) pa_nil)) (pa_cons (pe_call (ok_law_pairs T) (hr.mono (by decide)) (by rfl) T.g_law_pairs T.F_law_pairs.kp T.b_law_pairs .nil pass0 (pa_cons (pv 3) pa_nil)) pa_nil))))))))
      (pss_one (ps_ret pe_bl))
      pss_nil)
      (pss_cons (ps_for PassesOwn.never rfl (pi_list (pv 4)) (pg_name (i := 9) sc_law.nd rfl (Or.inl rfl))
      (pss_cons (ps_set (i := 10) sc_law.nd rfl (Or.inl rfl) (pe_call (ok_is_good T) (hr.mono (by decide)) (by rfl) T.g_is_good T.F_is_good.kp T.b_is_good .nil pass0 (pa_cons (pe_ix ix_tup (pv 9) pe_int (fun _ _ => rfl)) pa_nil)))
      (pss_one (ps_if (PW.pt (pw_or (pt_not (pt_val (pe_callB call_isi (by rfl) T.z_isinstance (by decide +kernel) (pa_cons (pv 10) (pa_cons (pe_bltn (v := .ty "bool") (by rfl) T.z_bool (by decide +kernel) rfl) pa_nil))))) (pw_or1 (pt_cmpR op_ne (pv 10) (pe_call (ok_law_good T) (hr.mono (by decide)) (by rfl) T.g_law_good T.F_law_good.kp T.b_law_good .nil pass0 (pa_cons (pe_ix ix_tup (pv 9) pe_int (fun _ _ => rfl)) pa_nil)) (nomark _)))))
      (pss_one (ps_ret pe_bl))
      pss_nil))))
      (pss_one (ps_ret pe_bl)))))))))), ?_⟩
    refine a_setL (Ex.refl H) (xs := blanksV) (el_lst (ea_cons ev_c (ea_cons ev_c (ea_cons ev_c (ea_cons ev_c (ea_cons ev_c (ea_cons ev_c (ea_cons ev_c ea_nil))))))) (by decide)) (fun pb H1 hpb e1 => ?_)
    have hB : SqL K (upd H pb (.lst blanksV)) pb blanksV := sq_of upd_same
    have hS1 : SqL K (upd H pb (.lst blanksV)) l (ns.map V.int) := ex_l (Ex.new hpb) hS
    generalize upd H pb (.lst blanksV) = G0 at e1 hB hS1
    refine a_set e1 (v := .str (S [])) (ev_is ev_c (by rw [s_nil])) (fun H2 e2 => ?_)
    refine a_set e2 (v := .str (S [])) (ev_is ev_c (by rw [s_nil])) (fun H3 e3 => ?_)
    refine a_setL e3 (el_lst ea_nil (by decide)) (fun re H4 hre e4 => ?_)
    have x4 : Ex G0 (upd G0 re (.lst [])) := Ex.new hre
    have hre4 : (upd G0 re (.lst [])) re = some (.lst []) := upd_same
    generalize upd G0 re (.lst []) = G1 at e4 x4 hre4
    refine a_forNL e4 (el_sl (ev_var rfl) eo_none (eo_some ev_c) (ex_l x4 hS1))
      (fun r i σ' H' => r ≠ re ∧ ∃ (t rw : List Nat) (ws : List V) (y5 y6 y7 y8 : Option V), σ' = [some (.ref l), some (.ref pb), some (.str (S t)), some (.str (S rw)), some (.ref re), y5, y6, y7, y8, none, none] ∧ Ex G0 H' ∧ H' re = some (.lst ws) ∧ H' r = some (.lst (cutV (ns.map V.int) none (some 100))) ∧ AllAt (PairAt K H') ws (TK t) ∧ (∀ c ∈ TK t, IsTok c.2) ∧ t.length ≤ 30 * i ∧ rw.length = 3 * i)
      (fun r H5 hr0 e5 => ⟨(ne_new hre4 hr0).symm, [], [], [], none, none, none, none, rfl, x4.trans ((Ex.new hr0).trans e5), e5 _ _ (by rw [upd_ne (ne_new hre4 hr0)]; exact hre4), e5 _ _ upd_same, ⟨rfl, fun i v c h => (nomatch h)⟩, fun c h => (nomatch h), Nat.zero_le _, rfl⟩)
      (fun r i σ' H' _ ⟨_, _, _, _, _, _, _, _, _, _, _, h, _⟩ => sq_of h) ?_ ?_
    · rintro r i x σ' H' hx ⟨hrre, t, rw, ws, y5, y6, y7, y8, rfl, x5, hre5, hr5, hA, hT, hl, hrl⟩
      have hcut : cutV (ns.map V.int) none (some 100) = ns.map V.int := by
        rw [show (some 100 : Option Int) = some ((100 : Nat) : Int) from rfl, cutV_to]
        exact List.take_of_length_le (by rw [List.length_map]; omega)
      rw [hcut] at hx
      have hi63 : i < 63 := by
        have := (List.getElem?_eq_some_iff.mp hx).1
        rw [List.length_map] at this
        omega
      obtain ⟨c, rfl⟩ : ∃ c, x = V.int c := by
        obtain ⟨c, _, e⟩ := List.mem_map.mp (List.mem_of_getElem? hx)
        exact ⟨c, e.symm⟩
      refine a_setN (Ex.refl H') (en_parts (sizes := [11, 1000000000, 36, 12, 60, 7, 97, 97, 97]) (ev_var rfl) (fun H1 _ => el_lst (ea_cons ev_c (ea_cons (ev_is (ev_op ev_c ev_c (rv_I ⟨by decide, by decide, by decide⟩)) rfl) (ea_cons ev_c (ea_cons ev_c (ea_cons ev_c (ea_cons ev_c (ea_cons ev_c (ea_cons ev_c (ea_cons ev_c ea_nil))))))))) (by decide)) (by decide) (by decide)) (fun xs rp H6 hP hrp e6 => ?_)
      obtain ⟨ps, rfl, hd⟩ := hP
      have hpl : ps.length = 9 := hd.len
      have d0 := hd.at_ 0 (by decide)
      have d2 := hd.at_ 2 (by decide)
      have d3 := hd.at_ 3 (by decide)
      have d5 := hd.at_ 5 (by decide)
      have xn : Ex H' (upd H' rp (.lst (ps.map V.int))) := Ex.new hrp
      have hPr : (upd H' rp (.lst (ps.map V.int))) rp = some (.lst (ps.map V.int)) := upd_same
      have hrpre : rp ≠ re := (ne_new hre5 hrp).symm
      generalize upd H' rp (.lst (ps.map V.int)) = G2 at e6 xn hPr
      have hPs : SqL K G2 rp (ps.map V.int) := sq_of hPr
      have hB2 : SqL K G2 pb blanksV := ex_l (x5.trans xn) hB
      have at_ : ∀ k : Nat, k < 9 → atI (ps.map V.int) (k : Int) = some (.int (ps.getD k 0)) := fun k hk => at_map (by omega)
      refine a_setV (P := fun v => ∃ u, v = .str (S u) ∧ IsTok u) e6 (ew_call (ea_cons (ev_var rfl) ea_nil) fun H1 x1 Q q E => ⟨rp, ps, rfl, ex_l x1 hPs, by omega, d0.1, d2, d3, fun u hu H2 e2 => q _ H2 ⟨u, rfl, hu⟩ e2⟩) (fun v H7 hv e7 => ?_)
      obtain ⟨u, rfl, hu⟩ := hv
      obtain ⟨u0, u1, u2⟩ := tok_ne hu
      obtain ⟨j, hj⟩ : ∃ j : Nat, ps.getD 5 0 = (j : Int) := ⟨(ps.getD 5 0).toNat, by omega⟩
      have hj7 : j < 7 := by
        have : ps.getD 5 0 < 7 := d5.2
        omega
      obtain ⟨b1, b2, b3⟩ := blanks_at j hj7
      generalize blanksN.getD j [] = bl at b1 b2 b3
      refine a_set e7 (v := .str (S bl)) (ev_op (ev_var rfl) (ev_op (ev_var rfl) ev_c (rv_ixL hPs (at_ 5 (by decide)))) (rv_ixL hB2 (by rw [hj]; exact atI_nat b1))) (fun H8 e8 => ?_)
      have htl : t.length ≤ 2000 := by omega
      have htest : EvT (tAnd (tTest (tOp rNe (tVar 2) (tC (.str "")))) (tAnd (tTest (tOp rEq (tVar 8) (tC (.str "")))) (tAnd (tB (tCall (sp_law_in_run K) [] E0 (tCons (tOp rIxS (tVar 2) (tUn (rU fun i => .int (-i)) (tC (.int 1)))) tNil))) (tB (tCall (sp_law_in_run K) [] E0 (tCons (tOp rIxS (tVar 7) (tC (.int 0))) tNil)))))) [some (.ref l), some (.ref pb), some (.str (S t)), some (.str (S rw)), some (.ref re), some (.int c), some (.ref rp), some (.str (S u)), some (.str (S bl)), none, none] G2 (decide (bl = []) && joins t (u.getD 0 0)) := by
        by_cases t0 : t = []
        · exact et_is (et_and (b := false) (et_test (ev_op (ev_var rfl) (ev_is ev_c (by rw [s_nil])) (rv_ne (y := .str (S [])) rfl))) fun h => by
            rw [t0] at h
            exact absurd h (by decide)) (by
              rw [t0, show joins [] (u.getD 0 0) = false from rfl]
              simp)
        · obtain ⟨d, hd1, hd2⟩ := ev_lastS (σ := [some (.ref l), some (.ref pb), some (.str (S t)), some (.str (S rw)), some (.ref re), some (.int c), some (.ref rp), some (.str (S u)), some (.str (S bl)), none, none]) (G := G2) (ta := tVar 2) (ev_var rfl) t0 (by omega)
          refine et_is (et_and (et_test (ev_op (ev_var rfl) (ev_is ev_c (by rw [s_nil])) (rv_ne (y := .str (S [])) rfl))) fun h => et_and (et_test (ev_op (ev_var rfl) (ev_is ev_c (by rw [s_nil])) (rv_eq (y := .str (S [])) rfl))) fun h => et_and (et_B (ev_call1 (z := .bl (isRun d)) (ea_cons hd1 ea_nil) fun H1 _ Q hq E => ⟨_, rfl, hq⟩)) fun h => et_B (ev_call1 (z := .bl (isRun (u.getD 0 0))) (ea_cons (ev_ixS (i := 0) (ev_var rfl) ev_c u1 (by omega)) ea_nil) fun H1 _ Q hq E => ⟨_, rfl, hq⟩)) ?_
          rw [s_eq, s_eq, joins_of, hd2, decide_eq_false t0]
          rfl
      refine a_whenS (M := fun σ' H2 => ∃ b, σ' = [some (.ref l), some (.ref pb), some (.str (S t)), some (.str (S rw)), some (.ref re), some (.int c), some (.ref rp), some (.str (S u)), some (.str (S b)), none, none] ∧ Ex G2 H2 ∧ (∀ x ∈ b, isBlank x = true) ∧ b.length ≤ 2 ∧ (b = [] → joins t (u.getD 0 0) = false)) e8 htest (fun hb H9 e9 => ?_) (fun hb H9 e9 => ?_) ?_
      · exact a_set1 e9 (v := .str (S [32])) (ev_is ev_c (by rw [s_sp])) (fun H10 e10 => ⟨[32], rfl, e10, by decide, by decide, fun h => (nomatch h)⟩)
      · refine ⟨bl, rfl, e9, b2, b3, fun h => ?_⟩
        rw [decide_eq_true h] at hb
        exact hb
      rintro σ' H9 ⟨b, rfl, e9, bb, bl2, bj⟩
      have htk := tk_tok t b u bb hu bj
      refine a_set e9 (v := .str (S (t ++ b))) (ev_op (ev_var rfl) (ev_var rfl) (rv_catS (by omega))) (fun H10 e10 => ?_)
      have hwl : ws.length ≤ 5000 := by
        have := tk_len t
        rw [hA.1]
        omega
      refine a_appP e10 (ev_var rfl) (xn _ _ hre5) (ep_pair (K := K) (p := (t ++ b).length) (t := u) (ev_lenC (ev_var rfl) (by rw [List.length_append]; omega)) (ev_var rfl)) (by omega) (fun v H11 e11 hv => ?_)
      have hre11 : H11 re = some (.lst ws) := (xn.trans e11) _ _ hre5
      have hA12 : AllAt (PairAt K (upd H11 re (.lst (ws ++ [v])))) (ws ++ [v]) (TK (t ++ b ++ u)) := by
        rw [htk]
        exact allAt_snoc (allAt_mono hA fun v c h => pair_upd (pair_mono (xn.trans e11) h) hre11) (pair_upd hv hre11)
      have hr12 : (upd H11 re (.lst (ws ++ [v]))) r = some (.lst (cutV (ns.map V.int) none (some 100))) := by
        rw [upd_ne hrre]
        exact (xn.trans e11) _ _ hr5
      have hp12 : SqL K (upd H11 re (.lst (ws ++ [v]))) rp (ps.map V.int) := sq_of (by
        rw [upd_ne hrpre]
        exact e11 _ _ hPr)
      have x12 : Ex G0 (upd H11 re (.lst (ws ++ [v]))) := Ex.mut (x5.trans (xn.trans e11)) hre
      have hre12 : (upd H11 re (.lst (ws ++ [v]))) re = some (.lst (ws ++ [v])) := upd_same
      generalize upd H11 re (.lst (ws ++ [v])) = G3 at hA12 hr12 hp12 x12 hre12
      refine a_set (Ex.refl G3) (v := .str (S (t ++ b ++ u))) (ev_op (ev_var rfl) (ev_var rfl) (rv_catS (by rw [List.length_append]; omega))) (fun H13 e13 => ?_)
      refine a_setP1 e13 (ep_cat (ep_cat (ep_cat (n := rw.length) (ep_have (ev_var rfl) (P := TxtN rw.length) (fun _ _ _ _ h => h) ⟨rw, rfl, rfl⟩) (ep_char (ev_op (ev_var rfl) ev_c (rv_ixL hp12 (at_ 6 (by decide))))) (by omega)) (ep_char (ev_op (ev_var rfl) ev_c (rv_ixL hp12 (at_ 7 (by decide))))) (by omega)) (ep_char (ev_op (ev_var rfl) ev_c (rv_ixL hp12 (at_ 8 (by decide))))) (by omega)) (fun v2 H14 e14 hv2 => ?_)
      obtain ⟨rw2, rfl, hrw2⟩ := hv2
      refine ⟨hrre, t ++ b ++ u, rw2, ws ++ [v], _, _, _, _, rfl, x12.trans e14, e14 _ _ hre12, e14 _ _ hr12, allAt_mono hA12 fun v c h => pair_mono e14 h, ?_, ?_, ?_⟩
      · intro d hd
        rw [htk] at hd
        rcases List.mem_append.mp hd with h | h
        · exact hT d h
        · rw [List.mem_singleton.mp h]
          exact hu
      · rw [List.length_append, List.length_append]
        omega
      · omega
    · rintro r σ' H' ⟨hrre, t, rw, ws, y5, y6, y7, y8, rfl, x5, hre5, hr5, hA, hT, hl, hrl⟩
      have hcl : (cutV (ns.map V.int) none (some 100)).length ≤ 63 := by
        rw [show (some 100 : Option Int) = some ((100 : Nat) : Int) from rfl, cutV_to, List.length_take, List.length_map]
        omega
      have hSl : SqL K H' l (ns.map V.int) := ex_l x5 hS1
      have hBl : SqL K H' pb blanksV := ex_l x5 hB
      have htl : t.length ≤ 2000 := by omega
      have hwt := tk_len t
      refine a_whenS (M := fun σ' H2 => ∃ t2, σ' = [some (.ref l), some (.ref pb), some (.str (S t2)), some (.str (S rw)), some (.ref re), y5, y6, y7, y8, none, none] ∧ Ex H' H2 ∧ TK t2 = TK t ∧ t2.length ≤ 3000) (Ex.refl H') (b := decide (0 < ns.length)) (et_test (ev_is (ev_op (ev_lenS (ev_var rfl) hSl) ev_c rv_I0) (by
        rw [List.length_map]
        congr 1
        exact decide_eq_decide.mpr ⟨fun h => by omega, fun h => by omega⟩))) (fun hb H9 e9 => ?_) (fun hb H9 e9 => ⟨t, rfl, e9, rfl, by omega⟩) ?_
      · have hn : 0 < ns.length := of_decide_eq_true hb
        obtain ⟨ns', m, rfl⟩ : ∃ ns' m, ns = ns' ++ [m] := ⟨ns.dropLast, ns.getLast (List.length_pos_iff.mp hn), (List.dropLast_concat_getLast _).symm⟩
        have hlast : atI ((ns' ++ [m]).map V.int) (-1) = some (.int m) := by
          rw [List.map_append]
          exact atI_last _ _
        obtain ⟨j, hj⟩ : ∃ j : Nat, m % 7 = (j : Int) := ⟨(m % 7).toNat, by omega⟩
        obtain ⟨b1, b2, b3⟩ := blanks_at j (by omega)
        generalize blanksN.getD j [] = bl at b1 b2 b3
        exact a_set1 e9 (v := .str (S (t ++ bl))) (ev_op (ev_var rfl) (ev_op (ev_var rfl) (ev_op (ev_int1 (ev_op (ev_var rfl) (ev_un ev_c ru_neg) (rv_ixL hSl hlast))) ev_c (rv_I (by decide))) (rv_ixL hBl (by rw [hj]; exact atI_nat b1))) (rv_catS (by omega))) (fun H10 e10 => ⟨t ++ bl, rfl, e10, tk_blanks t bl b2, by rw [List.length_append]; omega⟩)
      rintro σ' H9 ⟨t2, rfl, e9, htk2, ht2⟩
      refine a_when e9 (b := false) (et_or (et_not (et_B (ev_same (l := t2) (ep_split (ev_var rfl) (by omega)) (ep_have (ev_var rfl) mono_tokList ⟨re, ws, rfl, hre5, by rw [htk2]; exact hA⟩) (by omega)))) fun _ => et_not (et_B (ev_same (l := rw) (ep_split (ev_var rfl) (by omega)) (ep_pairs (ev_var rfl) (by omega)) (by omega)))) (fun hb => nomatch hb) (fun _ H10 e10 => ?_)
      refine a_forL e10 (ev_var rfl) (sq_of hre5) (fun i σ' H2 => ∃ y z, σ' = [some (.ref l), some (.ref pb), some (.str (S t2)), some (.str (S rw)), some (.ref re), y5, y6, y7, y8, y, z] ∧ Ex H' H2) (fun H11 e11 => ⟨none, none, rfl, e11⟩) (fun i σ' H2 _ ⟨_, _, _, e11⟩ => ex_l e11 (sq_of hre5)) ?_ ?_
      · rintro i x σ' H2 hx ⟨y, z, rfl, e11⟩
        have hi : i < (TK t).length := by
          rw [← hA.1]
          exact (List.getElem?_eq_some_iff.mp hx).1
        obtain ⟨v, d, hv, hd, pv, rfl, hP⟩ := allAt_get hA hi
        rw [hx] at hv
        obtain rfl := Option.some.inj hv
        have hu := hT d (List.mem_of_getElem? hd)
        obtain ⟨u0, u1, u2⟩ := tok_ne hu
        have hP2 := ex_t e11 hP
        refine a_set (Ex.refl H2) (v := .bl (goodB d.2)) (ev_call1 (ea_cons (ev_op (ev_var rfl) ev_c (rv_ixT hP2 rfl)) ea_nil) fun H1 _ Q hq E => ⟨d.2, rfl, u1, by omega, hq⟩) (fun H12 e12 => ?_)
        refine a_when1 e12 (b := false) (et_is (et_or (et_not (et_B (ev_isiBl (ev_var rfl)))) fun _ => et_test (ev_op (ev_var rfl) (ev_call1 (z := .bl (goodB d.2)) (ea_cons (ev_op (ev_var rfl) ev_c (rv_ixT hP2 rfl)) ea_nil) fun H1 _ Q hq E => ⟨d.2, rfl, hu, hq⟩) (rv_ne rfl))) (by simp)) (fun hb => nomatch hb) (fun _ H13 e13 => ⟨_, _, rfl, e11.trans e13⟩)
      · rintro σ' H2 ⟨y, z, rfl, e11⟩
        exact a_ret e11 ev_c (fun H12 _ => q H12)


end
theorem all_mk {l : PySem.W.OpenLaw} {w : World} {K : PySem.W.Frag} {h : Heap} {mg : Str → Option Value} {fa : Addr} (X : K.In h) (G : h.Ns mainGlobals mg) (hfa : mg "law" = some (.ref fa))
    {f_split_tokens : Addr} {od_split_tokens an_split_tokens : Option Addr} {sl_split_tokens : Array (Option Value)} {oc_split_tokens kV_split_tokens dc_split_tokens pm_split_tokens cd_split_tokens ct_split_tokens : Value}
    {f_token_end : Addr} {od_token_end an_token_end : Option Addr} {sl_token_end : Array (Option Value)} {oc_token_end kV_token_end dc_token_end pm_token_end cd_token_end ct_token_end : Value}
    {f_is_run_character : Addr} {od_is_run_character an_is_run_character : Option Addr} {sl_is_run_character : Array (Option Value)} {oc_is_run_character kV_is_run_character dc_is_run_character pm_is_run_character cd_is_run_character ct_is_run_character : Value}
    {f_is_good : Addr} {od_is_good an_is_good : Option Addr} {sl_is_good : Array (Option Value)} {oc_is_good kV_is_good dc_is_good pm_is_good cd_is_good ct_is_good : Value}
    {f_law_parts : Addr} {od_law_parts an_law_parts : Option Addr} {sl_law_parts : Array (Option Value)} {oc_law_parts kV_law_parts dc_law_parts pm_law_parts cd_law_parts ct_law_parts : Value}
    {f_law_is_integer : Addr} {od_law_is_integer an_law_is_integer : Option Addr} {sl_law_is_integer : Array (Option Value)} {oc_law_is_integer kV_law_is_integer dc_law_is_integer pm_law_is_integer cd_law_is_integer ct_law_is_integer : Value}
    {f_law_run : Addr} {od_law_run an_law_run : Option Addr} {sl_law_run : Array (Option Value)} {oc_law_run kV_law_run dc_law_run pm_law_run cd_law_run ct_law_run : Value}
    {f_law_token : Addr} {od_law_token an_law_token : Option Addr} {sl_law_token : Array (Option Value)} {oc_law_token kV_law_token dc_law_token pm_law_token cd_law_token ct_law_token : Value}
    {f_law_in_run : Addr} {od_law_in_run an_law_in_run : Option Addr} {sl_law_in_run : Array (Option Value)} {oc_law_in_run kV_law_in_run dc_law_in_run pm_law_in_run cd_law_in_run ct_law_in_run : Value}
    {f_law_good : Addr} {od_law_good an_law_good : Option Addr} {sl_law_good : Array (Option Value)} {oc_law_good kV_law_good dc_law_good pm_law_good cd_law_good ct_law_good : Value}
    {f_law_char : Addr} {od_law_char an_law_char : Option Addr} {sl_law_char : Array (Option Value)} {oc_law_char kV_law_char dc_law_char pm_law_char cd_law_char ct_law_char : Value}
    {f_law_pairs : Addr} {od_law_pairs an_law_pairs : Option Addr} {sl_law_pairs : Array (Option Value)} {oc_law_pairs kV_law_pairs dc_law_pairs pm_law_pairs cd_law_pairs ct_law_pairs : Value}
    {f_law_same : Addr} {od_law_same an_law_same : Option Addr} {sl_law_same : Array (Option Value)} {oc_law_same kV_law_same dc_law_same pm_law_same cd_law_same ct_law_same : Value}
    {f_law : Addr} {od_law an_law : Option Addr} {sl_law : Array (Option Value)} {oc_law kV_law dc_law pm_law cd_law ct_law : Value}
    {t_LETTERS : Tok}
    {t_DIGITS : Tok}
    {t_LONGEST_WORD : Tok}
    (a_split_tokens : PySem.W.nsIn K mainGlobals "split_tokens" = some (some (.ref f_split_tokens)))
    (l_split_tokens : K.lookup f_split_tokens = some ⟨oc_split_tokens, od_split_tokens, .func (PySem.W.fnOf "split_tokens" "split_tokens" (defArgs s_split_tokens) (defBody s_split_tokens) (defScope s_split_tokens) .none kV_split_tokens dc_split_tokens pm_split_tokens an_split_tokens cd_split_tokens ct_split_tokens), sl_split_tokens⟩)
    (c_split_tokens : PySem.W.codeIn K cd_split_tokens "split_tokens" = true)
    (k_split_tokens : PySem.W.keepIn K (.ref f_split_tokens) = true)
    (a_token_end : PySem.W.nsIn K mainGlobals "token_end" = some (some (.ref f_token_end)))
    (l_token_end : K.lookup f_token_end = some ⟨oc_token_end, od_token_end, .func (PySem.W.fnOf "token_end" "token_end" (defArgs s_token_end) (defBody s_token_end) (defScope s_token_end) .none kV_token_end dc_token_end pm_token_end an_token_end cd_token_end ct_token_end), sl_token_end⟩)
    (c_token_end : PySem.W.codeIn K cd_token_end "token_end" = true)
    (k_token_end : PySem.W.keepIn K (.ref f_token_end) = true)
    (a_is_run_character : PySem.W.nsIn K mainGlobals "is_run_character" = some (some (.ref f_is_run_character)))
    (l_is_run_character : K.lookup f_is_run_character = some ⟨oc_is_run_character, od_is_run_character, .func (PySem.W.fnOf "is_run_character" "is_run_character" (defArgs s_is_run_character) (defBody s_is_run_character) (defScope s_is_run_character) .none kV_is_run_character dc_is_run_character pm_is_run_character an_is_run_character cd_is_run_character ct_is_run_character), sl_is_run_character⟩)
    (c_is_run_character : PySem.W.codeIn K cd_is_run_character "is_run_character" = true)
    (k_is_run_character : PySem.W.keepIn K (.ref f_is_run_character) = true)
    (a_is_good : PySem.W.nsIn K mainGlobals "is_good" = some (some (.ref f_is_good)))
    (l_is_good : K.lookup f_is_good = some ⟨oc_is_good, od_is_good, .func (PySem.W.fnOf "is_good" "is_good" (defArgs s_is_good) (defBody s_is_good) (defScope s_is_good) .none kV_is_good dc_is_good pm_is_good an_is_good cd_is_good ct_is_good), sl_is_good⟩)
    (c_is_good : PySem.W.codeIn K cd_is_good "is_good" = true)
    (k_is_good : PySem.W.keepIn K (.ref f_is_good) = true)
    (a_law_parts : PySem.W.nsIn K mainGlobals "_law_parts" = some (some (.ref f_law_parts)))
    (l_law_parts : K.lookup f_law_parts = some ⟨oc_law_parts, od_law_parts, .func (PySem.W.fnOf "_law_parts" "_law_parts" (defArgs s_law_parts) (defBody s_law_parts) (defScope s_law_parts) .none kV_law_parts dc_law_parts pm_law_parts an_law_parts cd_law_parts ct_law_parts), sl_law_parts⟩)
    (c_law_parts : PySem.W.codeIn K cd_law_parts "_law_parts" = true)
    (k_law_parts : PySem.W.keepIn K (.ref f_law_parts) = true)
    (a_law_is_integer : PySem.W.nsIn K mainGlobals "_law_is_integer" = some (some (.ref f_law_is_integer)))
    (l_law_is_integer : K.lookup f_law_is_integer = some ⟨oc_law_is_integer, od_law_is_integer, .func (PySem.W.fnOf "_law_is_integer" "_law_is_integer" (defArgs s_law_is_integer) (defBody s_law_is_integer) (defScope s_law_is_integer) .none kV_law_is_integer dc_law_is_integer pm_law_is_integer an_law_is_integer cd_law_is_integer ct_law_is_integer), sl_law_is_integer⟩)
    (c_law_is_integer : PySem.W.codeIn K cd_law_is_integer "_law_is_integer" = true)
    (k_law_is_integer : PySem.W.keepIn K (.ref f_law_is_integer) = true)
    (a_law_run : PySem.W.nsIn K mainGlobals "_law_run" = some (some (.ref f_law_run)))
    (l_law_run : K.lookup f_law_run = some ⟨oc_law_run, od_law_run, .func (PySem.W.fnOf "_law_run" "_law_run" (defArgs s_law_run) (defBody s_law_run) (defScope s_law_run) .none kV_law_run dc_law_run pm_law_run an_law_run cd_law_run ct_law_run), sl_law_run⟩)
    (c_law_run : PySem.W.codeIn K cd_law_run "_law_run" = true)
    (k_law_run : PySem.W.keepIn K (.ref f_law_run) = true)
    (a_law_token : PySem.W.nsIn K mainGlobals "_law_token" = some (some (.ref f_law_token)))
    (l_law_token : K.lookup f_law_token = some ⟨oc_law_token, od_law_token, .func (PySem.W.fnOf "_law_token" "_law_token" (defArgs s_law_token) (defBody s_law_token) (defScope s_law_token) .none kV_law_token dc_law_token pm_law_token an_law_token cd_law_token ct_law_token), sl_law_token⟩)
    (c_law_token : PySem.W.codeIn K cd_law_token "_law_token" = true)
    (k_law_token : PySem.W.keepIn K (.ref f_law_token) = true)
    (a_law_in_run : PySem.W.nsIn K mainGlobals "_law_in_run" = some (some (.ref f_law_in_run)))
    (l_law_in_run : K.lookup f_law_in_run = some ⟨oc_law_in_run, od_law_in_run, .func (PySem.W.fnOf "_law_in_run" "_law_in_run" (defArgs s_law_in_run) (defBody s_law_in_run) (defScope s_law_in_run) .none kV_law_in_run dc_law_in_run pm_law_in_run an_law_in_run cd_law_in_run ct_law_in_run), sl_law_in_run⟩)
    (c_law_in_run : PySem.W.codeIn K cd_law_in_run "_law_in_run" = true)
    (k_law_in_run : PySem.W.keepIn K (.ref f_law_in_run) = true)
    (a_law_good : PySem.W.nsIn K mainGlobals "_law_good" = some (some (.ref f_law_good)))
    (l_law_good : K.lookup f_law_good = some ⟨oc_law_good, od_law_good, .func (PySem.W.fnOf "_law_good" "_law_good" (defArgs s_law_good) (defBody s_law_good) (defScope s_law_good) .none kV_law_good dc_law_good pm_law_good an_law_good cd_law_good ct_law_good), sl_law_good⟩)
    (c_law_good : PySem.W.codeIn K cd_law_good "_law_good" = true)
    (k_law_good : PySem.W.keepIn K (.ref f_law_good) = true)
    (a_law_char : PySem.W.nsIn K mainGlobals "_law_char" = some (some (.ref f_law_char)))
    (l_law_char : K.lookup f_law_char = some ⟨oc_law_char, od_law_char, .func (PySem.W.fnOf "_law_char" "_law_char" (defArgs s_law_char) (defBody s_law_char) (defScope s_law_char) .none kV_law_char dc_law_char pm_law_char an_law_char cd_law_char ct_law_char), sl_law_char⟩)
    (c_law_char : PySem.W.codeIn K cd_law_char "_law_char" = true)
    (k_law_char : PySem.W.keepIn K (.ref f_law_char) = true)
    (a_law_pairs : PySem.W.nsIn K mainGlobals "_law_pairs" = some (some (.ref f_law_pairs)))
    (l_law_pairs : K.lookup f_law_pairs = some ⟨oc_law_pairs, od_law_pairs, .func (PySem.W.fnOf "_law_pairs" "_law_pairs" (defArgs s_law_pairs) (defBody s_law_pairs) (defScope s_law_pairs) .none kV_law_pairs dc_law_pairs pm_law_pairs an_law_pairs cd_law_pairs ct_law_pairs), sl_law_pairs⟩)
    (c_law_pairs : PySem.W.codeIn K cd_law_pairs "_law_pairs" = true)
    (k_law_pairs : PySem.W.keepIn K (.ref f_law_pairs) = true)
    (a_law_same : PySem.W.nsIn K mainGlobals "_law_same" = some (some (.ref f_law_same)))
    (l_law_same : K.lookup f_law_same = some ⟨oc_law_same, od_law_same, .func (PySem.W.fnOf "_law_same" "_law_same" (defArgs s_law_same) (defBody s_law_same) (defScope s_law_same) .none kV_law_same dc_law_same pm_law_same an_law_same cd_law_same ct_law_same), sl_law_same⟩)
    (c_law_same : PySem.W.codeIn K cd_law_same "_law_same" = true)
    (k_law_same : PySem.W.keepIn K (.ref f_law_same) = true)
    (a_law : PySem.W.nsIn K mainGlobals "law" = some (some (.ref f_law)))
    (l_law : K.lookup f_law = some ⟨oc_law, od_law, .func (PySem.W.fnOf "law" "law" (defArgs s_law) (defBody s_law) (defScope s_law) .none kV_law dc_law pm_law an_law cd_law ct_law), sl_law⟩)
    (c_law : PySem.W.codeIn K cd_law "law" = true)
    (k_law : PySem.W.keepIn K (.ref f_law) = true)
    (z_bool : PySem.W.nsIn K mainGlobals "bool" = some none)
    (z_int : PySem.W.nsIn K mainGlobals "int" = some none)
    (z_isinstance : PySem.W.nsIn K mainGlobals "isinstance" = some none)
    (z_len : PySem.W.nsIn K mainGlobals "len" = some none)
    (z_list : PySem.W.nsIn K mainGlobals "list" = some none)
    (z_max : PySem.W.nsIn K mainGlobals "max" = some none)
    (z_range : PySem.W.nsIn K mainGlobals "range" = some none)
    (z_str : PySem.W.nsIn K mainGlobals "str" = some none)
    (z_tuple : PySem.W.nsIn K mainGlobals "tuple" = some none)
    (n_LETTERS : PySem.W.nsIn K mainGlobals "LETTERS" = some (some (.str "abcdefghijklmnopqrstuvwxyz" t_LETTERS)))
    (n_DIGITS : PySem.W.nsIn K mainGlobals "DIGITS" = some (some (.str "0123456789" t_DIGITS)))
    (n_LONGEST_WORD : PySem.W.nsIn K mainGlobals "LONGEST_WORD" = some (some (.int 8 t_LONGEST_WORD)))
    : ∃ fd : FuncData, (∀ (s : Shared) (v : Value), BindsTo s fd ⟨[v], []⟩ [("script", v)]) ∧ ∀ base : Heap, K.In base → base.Ns mainGlobals mg → FnOk l.prog w K mg base CX0 4 fa fd ["script"] (spLaw K) := by
  have e := hfa.symm.trans (PySem.W.mg_of X G a_law)
  cases e
  have F_split_tokens := fun_mk (st := s_split_tokens) l_split_tokens c_split_tokens k_split_tokens
  have b_split_tokens := F_split_tokens.binds (ps := ["text"]) fun _ _ _ _ _ _ us hl => match us, hl with | [_], _ => rfl
  have F_token_end := fun_mk (st := s_token_end) l_token_end c_token_end k_token_end
  have b_token_end := F_token_end.binds (ps := ["text", "place"]) fun _ _ _ _ _ _ us hl => match us, hl with | [_, _], _ => rfl
  have F_is_run_character := fun_mk (st := s_is_run_character) l_is_run_character c_is_run_character k_is_run_character
  have b_is_run_character := F_is_run_character.binds (ps := ["character"]) fun _ _ _ _ _ _ us hl => match us, hl with | [_], _ => rfl
  have F_is_good := fun_mk (st := s_is_good) l_is_good c_is_good k_is_good
  have b_is_good := F_is_good.binds (ps := ["token"]) fun _ _ _ _ _ _ us hl => match us, hl with | [_], _ => rfl
  have F_law_parts := fun_mk (st := s_law_parts) l_law_parts c_law_parts k_law_parts
  have b_law_parts := F_law_parts.binds (ps := ["cell", "sizes"]) fun _ _ _ _ _ _ us hl => match us, hl with | [_, _], _ => rfl
  have F_law_is_integer := fun_mk (st := s_law_is_integer) l_law_is_integer c_law_is_integer k_law_is_integer
  have b_law_is_integer := F_law_is_integer.binds (ps := ["actual"]) fun _ _ _ _ _ _ us hl => match us, hl with | [_], _ => rfl
  have F_law_run := fun_mk (st := s_law_run) l_law_run c_law_run k_law_run
  have b_law_run := F_law_run.binds (ps := ["code", "step", "length"]) fun _ _ _ _ _ _ us hl => match us, hl with | [_, _, _], _ => rfl
  have F_law_token := fun_mk (st := s_law_token) l_law_token c_law_token k_law_token
  have b_law_token := F_law_token.binds (ps := ["parts"]) fun _ _ _ _ _ _ us hl => match us, hl with | [_], _ => rfl
  have F_law_in_run := fun_mk (st := s_law_in_run) l_law_in_run c_law_in_run k_law_in_run
  have b_law_in_run := F_law_in_run.binds (ps := ["char"]) fun _ _ _ _ _ _ us hl => match us, hl with | [_], _ => rfl
  have F_law_good := fun_mk (st := s_law_good) l_law_good c_law_good k_law_good
  have b_law_good := F_law_good.binds (ps := ["token"]) fun _ _ _ _ _ _ us hl => match us, hl with | [_], _ => rfl
  have F_law_char := fun_mk (st := s_law_char) l_law_char c_law_char k_law_char
  have b_law_char := F_law_char.binds (ps := ["number"]) fun _ _ _ _ _ _ us hl => match us, hl with | [_], _ => rfl
  have F_law_pairs := fun_mk (st := s_law_pairs) l_law_pairs c_law_pairs k_law_pairs
  have b_law_pairs := F_law_pairs.binds (ps := ["text"]) fun _ _ _ _ _ _ us hl => match us, hl with | [_], _ => rfl
  have F_law_same := fun_mk (st := s_law_same) l_law_same c_law_same k_law_same
  have b_law_same := F_law_same.binds (ps := ["actual", "expected"]) fun _ _ _ _ _ _ us hl => match us, hl with | [_, _], _ => rfl
  have F_law := fun_mk (st := s_law) l_law c_law k_law
  have b_law := F_law.binds (ps := ["script"]) fun _ _ _ _ _ _ us hl => match us, hl with | [_], _ => rfl
  let a : A := { f_split_tokens := f_split_tokens, d_split_tokens := PySem.W.fnOf "split_tokens" "split_tokens" (defArgs s_split_tokens) (defBody s_split_tokens) (defScope s_split_tokens) .none kV_split_tokens dc_split_tokens pm_split_tokens an_split_tokens cd_split_tokens ct_split_tokens, f_token_end := f_token_end, d_token_end := PySem.W.fnOf "token_end" "token_end" (defArgs s_token_end) (defBody s_token_end) (defScope s_token_end) .none kV_token_end dc_token_end pm_token_end an_token_end cd_token_end ct_token_end, f_is_run_character := f_is_run_character, d_is_run_character := PySem.W.fnOf "is_run_character" "is_run_character" (defArgs s_is_run_character) (defBody s_is_run_character) (defScope s_is_run_character) .none kV_is_run_character dc_is_run_character pm_is_run_character an_is_run_character cd_is_run_character ct_is_run_character, f_is_good := f_is_good, d_is_good := PySem.W.fnOf "is_good" "is_good" (defArgs s_is_good) (defBody s_is_good) (defScope s_is_good) .none kV_is_good dc_is_good pm_is_good an_is_good cd_is_good ct_is_good, f_law_parts := f_law_parts, d_law_parts := PySem.W.fnOf "_law_parts" "_law_parts" (defArgs s_law_parts) (defBody s_law_parts) (defScope s_law_parts) .none kV_law_parts dc_law_parts pm_law_parts an_law_parts cd_law_parts ct_law_parts, f_law_is_integer := f_law_is_integer, d_law_is_integer := PySem.W.fnOf "_law_is_integer" "_law_is_integer" (defArgs s_law_is_integer) (defBody s_law_is_integer) (defScope s_law_is_integer) .none kV_law_is_integer dc_law_is_integer pm_law_is_integer an_law_is_integer cd_law_is_integer ct_law_is_integer, f_law_run := f_law_run, d_law_run := PySem.W.fnOf "_law_run" "_law_run" (defArgs s_law_run) (defBody s_law_run) (defScope s_law_run) .none kV_law_run dc_law_run pm_law_run an_law_run cd_law_run ct_law_run, f_law_token := f_law_token, d_law_token := PySem.W.fnOf "_law_token" "_law_token" (defArgs s_law_token) (defBody s_law_token) (defScope s_law_token) .none kV_law_token dc_law_token pm_law_token an_law_token cd_law_token ct_law_token, f_law_in_run := f_law_in_run, d_law_in_run := PySem.W.fnOf "_law_in_run" "_law_in_run" (defArgs s_law_in_run) (defBody s_law_in_run) (defScope s_law_in_run) .none kV_law_in_run dc_law_in_run pm_law_in_run an_law_in_run cd_law_in_run ct_law_in_run, f_law_good := f_law_good, d_law_good := PySem.W.fnOf "_law_good" "_law_good" (defArgs s_law_good) (defBody s_law_good) (defScope s_law_good) .none kV_law_good dc_law_good pm_law_good an_law_good cd_law_good ct_law_good, f_law_char := f_law_char, d_law_char := PySem.W.fnOf "_law_char" "_law_char" (defArgs s_law_char) (defBody s_law_char) (defScope s_law_char) .none kV_law_char dc_law_char pm_law_char an_law_char cd_law_char ct_law_char, f_law_pairs := f_law_pairs, d_law_pairs := PySem.W.fnOf "_law_pairs" "_law_pairs" (defArgs s_law_pairs) (defBody s_law_pairs) (defScope s_law_pairs) .none kV_law_pairs dc_law_pairs pm_law_pairs an_law_pairs cd_law_pairs ct_law_pairs, f_law_same := f_law_same, d_law_same := PySem.W.fnOf "_law_same" "_law_same" (defArgs s_law_same) (defBody s_law_same) (defScope s_law_same) .none kV_law_same dc_law_same pm_law_same an_law_same cd_law_same ct_law_same, f_law := fa, d_law := PySem.W.fnOf "law" "law" (defArgs s_law) (defBody s_law) (defScope s_law) .none kV_law dc_law pm_law an_law cd_law ct_law }
  have T : Top K mg w a := { F_split_tokens := F_split_tokens, b_split_tokens := b_split_tokens, g_split_tokens := PySem.W.mg_of X G a_split_tokens, F_token_end := F_token_end, b_token_end := b_token_end, g_token_end := PySem.W.mg_of X G a_token_end, F_is_run_character := F_is_run_character, b_is_run_character := b_is_run_character, g_is_run_character := PySem.W.mg_of X G a_is_run_character, F_is_good := F_is_good, b_is_good := b_is_good, g_is_good := PySem.W.mg_of X G a_is_good, F_law_parts := F_law_parts, b_law_parts := b_law_parts, g_law_parts := PySem.W.mg_of X G a_law_parts, F_law_is_integer := F_law_is_integer, b_law_is_integer := b_law_is_integer, g_law_is_integer := PySem.W.mg_of X G a_law_is_integer, F_law_run := F_law_run, b_law_run := b_law_run, g_law_run := PySem.W.mg_of X G a_law_run, F_law_token := F_law_token, b_law_token := b_law_token, g_law_token := PySem.W.mg_of X G a_law_token, F_law_in_run := F_law_in_run, b_law_in_run := b_law_in_run, g_law_in_run := PySem.W.mg_of X G a_law_in_run, F_law_good := F_law_good, b_law_good := b_law_good, g_law_good := PySem.W.mg_of X G a_law_good, F_law_char := F_law_char, b_law_char := b_law_char, g_law_char := PySem.W.mg_of X G a_law_char, F_law_pairs := F_law_pairs, b_law_pairs := b_law_pairs, g_law_pairs := PySem.W.mg_of X G a_law_pairs, F_law_same := F_law_same, b_law_same := b_law_same, g_law_same := PySem.W.mg_of X G a_law_same, F_law := F_law, b_law := b_law, g_law := PySem.W.mg_of X G a_law, z_bool := PySem.W.mg_none_of X G z_bool, z_int := PySem.W.mg_none_of X G z_int, z_isinstance := PySem.W.mg_none_of X G z_isinstance, z_len := PySem.W.mg_none_of X G z_len, z_list := PySem.W.mg_none_of X G z_list, z_max := PySem.W.mg_none_of X G z_max, z_range := PySem.W.mg_none_of X G z_range, z_str := PySem.W.mg_none_of X G z_str, z_tuple := PySem.W.mg_none_of X G z_tuple, c_LETTERS := ⟨_, PySem.W.mg_of X G n_LETTERS, _, rfl⟩, c_DIGITS := ⟨_, PySem.W.mg_of X G n_DIGITS, _, rfl⟩, c_LONGEST_WORD := ⟨_, PySem.W.mg_of X G n_LONGEST_WORD, _, rfl⟩ }
  exact ⟨_, fun s v => .of_eq rfl, fun base _ _ => ok_law T⟩
theorem walk {l : PySem.W.OpenLaw} {q : Program} {loose : List Str} {XP : (Str → Option Value) → Heap → Prop} {YP : World → Heap → Prop} {d : DefRec} {K : Params → PySem.W.Frag} (hn : l.most = some 63) (hdf : d.params.defaults = [])
    (hY : ∀ (w : World) (h : Heap), YP w h → (K w.params).In h)
    (F : ∀ (w : World) (mg : Str → Option Value) (fa : Addr) (h : Heap), (K w.params).In h → h.Ns mainGlobals mg → mg d.name = some (.ref fa) →
      ∃ fd : FuncData, (∀ (s : Shared) (u : Value), BindsTo s fd ⟨[u], []⟩ [("script", u)]) ∧ ∀ base : Heap, (K w.params).In base → base.Ns mainGlobals mg → FnOk l.prog w (K w.params) mg base CX0 4 fa fd ["script"] (spLaw (K w.params))) :
    PySem.W.WalkO q loose XP YP l.row.toRowW d [] (fun f vs => PySem.call f vs) :=
  L2.walk_of (n := 63) (k := 4) (x := "script") (CX := fun _ => CX0) (sp := fun w => spLaw (K w.params)) hn (by decide) hdf ⟨rfl, by decide, by decide⟩ hY F (fun _ _ a ns hl _ hS => ⟨a, ns, rfl, hS, hl, fun _ => rfl⟩) fun _ _ _ _ _ z => z
end GR

open PySem PySem.W PyProof.Rows in
set_option maxRecDepth 100000 in
set_option maxHeartbeats 0 in
theorem PySem.Challenge.cw_gatesread_k01_split_tokens_holds : PySem.Challenge.rw_gatesread_k01_split_tokens.Holds := by
  w_on; o_law; k_head; (case hw => w_witness2)
  k_fill
  refine GR.walk (l := PySem.Challenge.rw_gatesread_k01_split_tokens) rfl rfl (fun w h Y => PySem.W.kIn_of Y) ?F
  case F =>
    intro w mg fa h KX G hmg
    refine' GR.all_mk KX G hmg ?a_split_tokens ?l_split_tokens ?c_split_tokens ?k_split_tokens ?a_token_end ?l_token_end ?c_token_end ?k_token_end ?a_is_run_character ?l_is_run_character ?c_is_run_character ?k_is_run_character ?a_is_good ?l_is_good ?c_is_good ?k_is_good ?a_law_parts ?l_law_parts ?c_law_parts ?k_law_parts ?a_law_is_integer ?l_law_is_integer ?c_law_is_integer ?k_law_is_integer ?a_law_run ?l_law_run ?c_law_run ?k_law_run ?a_law_token ?l_law_token ?c_law_token ?k_law_token ?a_law_in_run ?l_law_in_run ?c_law_in_run ?k_law_in_run ?a_law_good ?l_law_good ?c_law_good ?k_law_good ?a_law_char ?l_law_char ?c_law_char ?k_law_char ?a_law_pairs ?l_law_pairs ?c_law_pairs ?k_law_pairs ?a_law_same ?l_law_same ?c_law_same ?k_law_same ?a_law ?l_law ?c_law ?k_law ?z_bool ?z_int ?z_isinstance ?z_len ?z_list ?z_max ?z_range ?z_str ?z_tuple ?n_LETTERS ?n_DIGITS ?n_LONGEST_WORD
    (case a_split_tokens => k_is)
    (case l_split_tokens => k_is)
    (case c_split_tokens => k_is)
    (case k_split_tokens => k_is)
    (case a_token_end => k_is)
    (case l_token_end => k_is)
    (case c_token_end => k_is)
    (case k_token_end => k_is)
    (case a_is_run_character => k_is)
    (case l_is_run_character => k_is)
    (case c_is_run_character => k_is)
    (case k_is_run_character => k_is)
    (case a_is_good => k_is)
    (case l_is_good => k_is)
    (case c_is_good => k_is)
    (case k_is_good => k_is)
    (case a_law_parts => k_is)
    (case l_law_parts => k_is)
    (case c_law_parts => k_is)
    (case k_law_parts => k_is)
    (case a_law_is_integer => k_is)
    (case l_law_is_integer => k_is)
    (case c_law_is_integer => k_is)
    (case k_law_is_integer => k_is)
    (case a_law_run => k_is)
    (case l_law_run => k_is)
    (case c_law_run => k_is)
    (case k_law_run => k_is)
    (case a_law_token => k_is)
    (case l_law_token => k_is)
    (case c_law_token => k_is)
    (case k_law_token => k_is)
    (case a_law_in_run => k_is)
    (case l_law_in_run => k_is)
    (case c_law_in_run => k_is)
    (case k_law_in_run => k_is)
    (case a_law_good => k_is)
    (case l_law_good => k_is)
    (case c_law_good => k_is)
    (case k_law_good => k_is)
    (case a_law_char => k_is)
    (case l_law_char => k_is)
    (case c_law_char => k_is)
    (case k_law_char => k_is)
    (case a_law_pairs => k_is)
    (case l_law_pairs => k_is)
    (case c_law_pairs => k_is)
    (case k_law_pairs => k_is)
    (case a_law_same => k_is)
    (case l_law_same => k_is)
    (case c_law_same => k_is)
    (case k_law_same => k_is)
    (case a_law => k_is)
    (case l_law => k_is)
    (case c_law => k_is)
    (case k_law => k_is)
    (case z_bool => k_is)
    (case z_int => k_is)
    (case z_isinstance => k_is)
    (case z_len => k_is)
    (case z_list => k_is)
    (case z_max => k_is)
    (case z_range => k_is)
    (case z_str => k_is)
    (case z_tuple => k_is)
    (case n_LETTERS => k_is)
    (case n_DIGITS => k_is)
    (case n_LONGEST_WORD => k_is)
