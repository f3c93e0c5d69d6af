/-
  What package trig's angles are, step by step, as plain functions of numbers, for the seat Ytndimdodendonab. No Go text in sight.
-/
import Derived.Test.YtndimdodendonabTNear
namespace Go.Proofs.Ytndimdodendonab
open Go.RowKit

/-! ### Half of an angle, by its tangent; the series of an arc -/
def hvA (p : Int × Bool) : Int × Bool := addS (mulS p.2 p.1 p.1).2 1099511627776 (mulS p.2 p.1 p.1).1
def hvS (p : Int × Bool) : Int × Bool := sqrtS (hvA p).2 (hvA p).1
def hvC (p : Int × Bool) : Int × Bool := addS (hvS p).2 1099511627776 (hvS p).1
def halvS (p : Int × Bool) : Int × Bool := divS (hvC p).2 p.1 (hvC p).1
def halvN : Nat → Int × Bool → Int × Bool
  | 0, p => p
  | n + 1, p => halvN n (halvS p)
def arcP (n : Int) (p : Int × Bool) : Int × Bool := partS p.2 1099511627776 1 (2 * n + 1)
def arcM (u n : Int) (p : Int × Bool) : Int × Bool := mulS (arcP n p).2 u p.1
def arcStep (u n : Int) (p : Int × Bool) : Int × Bool := subS (arcM u n p).2 (arcP n p).1 (arcM u n p).1
def arcSer (u : Int) : Nat → Int × Bool → Int × Bool
  | 0, p => p
  | n + 1, p => arcSer u n (arcStep u n p)
theorem arcSer_round (u n : Int) (p T : Int × Bool) (h : 0 ≤ n) (e : arcSer u (n + 1).toNat p = T) : arcSer u n.toNat (arcStep u n p) = T := by
  rw [show (n + 1).toNat = n.toNat + 1 by omega] at e
  have e2 : ((n.toNat : Nat) : Int) = n := by omega
  simpa only [arcSer, e2] using e
theorem halvN_round (k : Int) (p T : Int × Bool) (h : 1 ≤ k) (e : halvN k.toNat p = T) : halvN (k - 1).toNat (halvS p) = T := by
  rw [show k.toNat = (k - 1).toNat + 1 by omega] at e
  exact e
def arcU (p : Int × Bool) : Int × Bool := mulS p.2 p.1 p.1
def arcV (p : Int × Bool) : Int × Bool := arcSer (arcU p).1 13 (0, (arcU p).2)
def arcW (p : Int × Bool) : Int × Bool := mulS (arcV p).2 p.1 (arcV p).1
def arcS (bad : Bool) (t : Int) : Int × Bool := (wrap64 (4 * (arcW (halvN 2 (t, bad))).1), (arcW (halvN 2 (t, bad))).2)

/-! ### The angle of a point -/
def szw (a : Int) : Int := if a < 0 then wrap64 (-a) else a
def lowS (y x : Int) : Int := if szw x < szw y then szw x else szw y
def highS (y x : Int) : Int := if szw x < szw y then szw y else szw x
def atan0 (bad : Bool) (y x : Int) : Int × Bool := arcS (divS bad (lowS y x) (highS y x)).2 (divS bad (lowS y x) (highS y x)).1
def atan1 (bad : Bool) (y x : Int) : Int × Bool := if szw x < szw y then subS (atan0 bad y x).2 1727108826179 (atan0 bad y x).1 else atan0 bad y x
def atan2 (bad : Bool) (y x : Int) : Int × Bool := if x < 0 then subS (atan1 bad y x).2 3454217652358 (atan1 bad y x).1 else atan1 bad y x
def atanS (bad : Bool) (y x : Int) : Int × Bool := if y = 0 ∧ x = 0 then (0, bad) else if y < 0 then neg1 (atan2 bad y x) else atan2 bad y x

/-! ### Of a bad flow, or of what is no number -/
theorem addS_t (a b : Int) : addS true a b = (0, true) := rfl
theorem subS_t (a b : Int) : subS true a b = (0, true) := rfl
theorem partS_t (a p q : Int) : partS true a p q = (0, true) := rfl
theorem mulS_t (a b : Int) : mulS true a b = (0, true) := rfl
theorem divS_t (a b : Int) : divS true a b = (0, true) := rfl
theorem sqrtS_t (a : Int) : sqrtS true a = (0, true) := rfl
theorem halvS_t (t : Int) : halvS (t, true) = (0, true) := rfl
theorem arcStep_t (u n v : Int) : arcStep u n (v, true) = (0, true) := rfl
theorem arcSer_t (u : Int) : ∀ (n : Nat) (v : Int), 0 < n → arcSer u n (v, true) = (0, true)
  | 1, _, _ => rfl
  | n + 2, v, _ => by
    rw [show arcSer u (n + 2) (v, true) = arcSer u (n + 1) (arcStep u ((n + 1 : Nat) : Int) (v, true)) from rfl, arcStep_t]
    exact arcSer_t u (n + 1) 0 (by omega)
theorem wrap64_0 : wrap64 (4 * 0) = 0 := by unfold wrap64; decide
theorem arcS_t (t : Int) : arcS true t = (0, true) := by
  have h : halvN 2 (t, true) = (0, true) := rfl
  have hv : arcV (0, true) = (0, true) := arcSer_t _ 13 _ (by decide)
  have hw : arcW (0, true) = (0, true) := by unfold arcW; rw [hv]; rfl
  unfold arcS
  rw [h, hw, wrap64_0]
theorem szw_of (a : Int) (h : numB a = true) : szw a = sz a := by
  have := numB_bd h
  unfold szw sz
  split
  · exact IntWalk.wrap64_in _ ⟨by omega, by omega⟩
  · rfl
theorem szw_no (a : Int) (ha : -9223372036854775808 ≤ a ∧ a ≤ 9223372036854775807) (h : numB a = false) : numB (szw a) = false := by
  have hn : ¬ (-4611686018427387904 ≤ a ∧ a ≤ 4611686018427387904) := fun c => by rw [numB_of c] at h; cases h
  rw [Bool.eq_false_iff]
  intro c
  have c2 := numB_bd c
  unfold szw at c2
  by_cases x : a < 0
  · rw [if_pos x] at c2
    by_cases z : a = -9223372036854775808
    · subst z
      rw [show wrap64 (- -9223372036854775808) = -9223372036854775808 by unfold wrap64; decide] at c2
      omega
    · rw [IntWalk.wrap64_in _ ⟨by omega, by omega⟩] at c2
      omega
  · rw [if_neg x] at c2
    omega
theorem atanS_of_div {bad : Bool} {y x : Int} (hz : ¬ (y = 0 ∧ x = 0)) (h : divS bad (lowS y x) (highS y x) = (0, true)) : atanS bad y x = (0, true) := by
  have e0 : atan0 bad y x = (0, true) := by unfold atan0; rw [h]; exact arcS_t 0
  have e1 : atan1 bad y x = (0, true) := by unfold atan1; rw [e0]; split; exact subS_t _ _; rfl
  have e2 : atan2 bad y x = (0, true) := by unfold atan2; rw [e1]; split; exact subS_t _ _; rfl
  unfold atanS
  rw [if_neg hz, e2]
  split <;> rfl
theorem atanS_no {bad : Bool} {y x : Int} (hy : -9223372036854775808 ≤ y ∧ y ≤ 9223372036854775807) (hx : -9223372036854775808 ≤ x ∧ x ≤ 9223372036854775807) (c : tk bad [y, x] = false) : atanS bad y x = (0, true) := by
  by_cases hz : y = 0 ∧ x = 0
  · obtain ⟨rfl, rfl⟩ := hz
    have hb : bad = true := by
      unfold tk at c
      simpa [show numB 0 = true by rfl] using c
    unfold atanS
    rw [if_pos ⟨rfl, rfl⟩, hb]
  · refine atanS_of_div hz ?_
    unfold divS
    refine partS_no ?_
    unfold tk at c ⊢
    unfold lowS highS
    cases hb : bad
    · rw [hb] at c
      have : numB y = false ∨ numB x = false := by
        cases h1 : numB y
        · exact Or.inl rfl
        · cases h2 : numB x
          · exact Or.inr rfl
          · simp [h1, h2] at c
      rcases this with h | h
      · have := szw_no y hy h
        split <;> simp [this]
      · have := szw_no x hx h
        split <;> simp [this]
    · rfl

/-! ### Of numbers: no flow goes bad, and how great the steps may be -/
theorem halv_good (t : Int) (h : 0 ≤ t ∧ t ≤ 1099511627776) :
    ∃ m s t', mulS false t t = (m, false) ∧ sqrtS false (1099511627776 + m) = (s, false) ∧ halvS (t, false) = (t', false) ∧ 0 ≤ m ∧ m ≤ 1099511627776 ∧
      m * 1099511627776 ≤ t * t + 549755813888 ∧ t * t ≤ m * 1099511627776 + 549755813888 ∧
      1099511627776 ≤ s ∧ s ≤ 2199023255552 ∧ s * s ≤ (1099511627776 + m) * 1099511627776 ∧ (1099511627776 + m) * 1099511627776 < (s + 1) * (s + 1) ∧
      0 ≤ t' ∧ 2 * t' ≤ t + 1 ∧ 2 * (t' * (1099511627776 + s)) ≤ 2 * (t * 1099511627776) + (1099511627776 + s) ∧ 2 * (t * 1099511627776) ≤ 2 * (t' * (1099511627776 + s)) + (1099511627776 + s) := by
  obtain ⟨m, em, m1, m2, m3⟩ := mulS_small t t (by omega) (by omega)
  have tt0 : 0 ≤ t * t := Int.mul_nonneg h.1 h.1
  have tt1 : t * t ≤ 1099511627776 * 1099511627776 := Int.mul_le_mul h.2 h.2 h.1 (by decide)
  have m0 := m3 tt0
  have mt : m ≤ 1099511627776 := by omega
  have ea : hvA (t, false) = (1099511627776 + m, false) := by
    unfold hvA
    show addS (mulS false t t).2 _ (mulS false t t).1 = _
    rw [em]
    exact addS_good _ _ rfl (numB_of (by omega)) (numB_of (by omega))
  obtain ⟨s, es, s0, s1, s2, _⟩ := sqrtS_near (1099511627776 + m) (by omega)
  have sl : 1099511627776 ≤ s := by
    by_cases c : 1099511627776 ≤ s
    · exact c
    · have := sq_mono (by omega : 0 ≤ s + 1) (by omega : s + 1 ≤ 1099511627776)
      omega
  have su : s ≤ 2199023255552 := by
    by_cases c : s ≤ 2199023255552
    · exact c
    · have := sq_mono (by omega : (0 : Int) ≤ 2199023255553) (by omega : 2199023255553 ≤ s)
      omega
  have ev : hvS (t, false) = (s, false) := by unfold hvS; rw [ea]; exact es
  have ec : hvC (t, false) = (1099511627776 + s, false) := by
    unfold hvC; rw [ev]; exact addS_good _ _ rfl (numB_of (by omega)) (numB_of (by omega))
  obtain ⟨t', et, d1, d2, d3, _⟩ := divS_near t (1099511627776 + s) h.1 (by omega) (by omega)
  refine ⟨m, s, t', em, es, ?_, m0, mt, m1, m2, sl, su, s1, s2, d3, ?_, d1, d2⟩
  · unfold halvS
    rw [ec]
    exact et
  · by_cases c : 2 * t' ≤ t + 1
    · exact c
    · have := Int.mul_le_mul_of_nonneg_left (by omega : 2199023255552 ≤ 1099511627776 + s) (by omega : 0 ≤ 2 * t' - 1)
      have e : (2 * t' - 1) * (1099511627776 + s) = 2 * (t' * (1099511627776 + s)) - (1099511627776 + s) := by grind
      omega
theorem arcStep_good (u n v : Int) (hu : 0 ≤ u ∧ u ≤ 137438953472) (hn : 0 ≤ n ∧ n ≤ 12) (hv : -2199023255552 ≤ v ∧ v ≤ 2199023255552) :
    ∃ p m, partS false 1099511627776 1 (2 * n + 1) = (p, false) ∧ mulS false u v = (m, false) ∧ arcStep u n (v, false) = (p - m, false) ∧ -2199023255552 ≤ p - m ∧ p - m ≤ 2199023255552 ∧
      2 * (p * (2 * n + 1)) ≤ 2199023255552 + (2 * n + 1) ∧ 2199023255552 ≤ 2 * (p * (2 * n + 1)) + (2 * n + 1) ∧ m * 1099511627776 ≤ u * v + 549755813888 ∧ u * v ≤ m * 1099511627776 + 549755813888 := by
  obtain ⟨p, ep, p1, p2, p3⟩ := partS_one 1099511627776 (2 * n + 1) (by rfl) (by omega) (by decide)
  obtain ⟨m, em, m1, m2, _⟩ := mulS_small u v (by omega) (by omega)
  have p0 := p3 (by decide)
  have pt : p ≤ 1099511627777 := by
    by_cases c : p ≤ 1099511627777
    · exact c
    · have := Int.mul_le_mul_of_nonneg_right (by omega : 1099511627778 ≤ p) (by omega : 0 ≤ 2 * n + 1)
      omega
  have b1 : u * v ≤ 137438953472 * 2199023255552 := by
    have h1 := Int.mul_le_mul_of_nonneg_left hv.2 hu.1
    have h2 := Int.mul_le_mul_of_nonneg_right hu.2 (by decide : (0 : Int) ≤ 2199023255552)
    omega
  have b2 : -(137438953472 * 2199023255552) ≤ u * v := by
    have h1 := Int.mul_le_mul_of_nonneg_left hv.1 hu.1
    have h2 := Int.mul_le_mul_of_nonneg_right hu.2 (by decide : (0 : Int) ≤ 2199023255552)
    rw [Int.mul_neg] at h1
    omega
  refine ⟨p, m, ep, em, ?_, by omega, by omega, p1, p2, m1, m2⟩
  unfold arcStep arcM arcP
  show subS (mulS (partS false 1099511627776 1 (2 * n + 1)).2 u v).2 (partS false 1099511627776 1 (2 * n + 1)).1 (mulS (partS false 1099511627776 1 (2 * n + 1)).2 u v).1 = _
  rw [ep]
  show subS (mulS false u v).2 p (mulS false u v).1 = _
  rw [em]
  exact subS_good _ _ (numB_of (by omega)) (numB_of (by omega)) (numB_of (by omega))
theorem arcSer_good (u : Int) (hu : 0 ≤ u ∧ u ≤ 137438953472) : ∀ (n : Nat) (v : Int), n ≤ 13 → (-2199023255552 ≤ v ∧ v ≤ 2199023255552) → ∃ v', arcSer u n (v, false) = (v', false) ∧ -2199023255552 ≤ v' ∧ v' ≤ 2199023255552
  | 0, v, _, hv => ⟨v, rfl, hv.1, hv.2⟩
  | n + 1, v, hn, hv => by
    obtain ⟨p, m, _, _, e, h1, h2, _⟩ := arcStep_good u n v hu (by omega) hv
    unfold arcSer
    rw [e]
    exact arcSer_good u hu n (p - m) (by omega) ⟨h1, h2⟩
/-- The arc of a tangent of 0 to 1. -/
theorem arc_good (t : Int) (h : 0 ≤ t ∧ t ≤ 1099511627776) : ∃ t1 t2 u v z, halvS (t, false) = (t1, false) ∧ halvS (t1, false) = (t2, false) ∧ mulS false t2 t2 = (u, false) ∧ arcSer u 13 (0, false) = (v, false) ∧ mulS false t2 v = (z, false) ∧ arcS false t = (4 * z, false) ∧ arcW (halvN 2 (t, false)) = (z, false) ∧
    0 ≤ t1 ∧ 2 * t1 ≤ t + 1 ∧ 0 ≤ t2 ∧ 2 * t2 ≤ t1 + 1 ∧ 0 ≤ u ∧ u ≤ 137438953472 ∧ -2199023255552 ≤ v ∧ v ≤ 2199023255552 ∧ z * 1099511627776 ≤ t2 * v + 549755813888 ∧ t2 * v ≤ z * 1099511627776 + 549755813888 ∧ u * 1099511627776 ≤ t2 * t2 + 549755813888 ∧ t2 * t2 ≤ u * 1099511627776 + 549755813888 ∧ -1099511627776 ≤ z ∧ z ≤ 1099511627776 := by
  obtain ⟨_, _, t1, _, _, e1, _, _, _, _, _, _, _, _, a1, a2, _⟩ := halv_good t h
  obtain ⟨_, _, t2, _, _, e2, _, _, _, _, _, _, _, _, b1, b2, _⟩ := halv_good t1 (by omega)
  obtain ⟨u, eu, u1, u2, u3⟩ := mulS_small t2 t2 (by omega) (by omega)
  have tt0 : 0 ≤ t2 * t2 := Int.mul_nonneg b1 b1
  have t2b : t2 ≤ 274877906945 := by omega
  have tt1 : t2 * t2 ≤ 274877906945 * 274877906945 := Int.mul_le_mul t2b t2b b1 (by decide)
  have u0 := u3 tt0
  obtain ⟨v, ev, v1, v2⟩ := arcSer_good u ⟨u0, by omega⟩ 13 0 (by decide) (by decide)
  obtain ⟨z, ez, z1, z2, _⟩ := mulS_small t2 v (by omega) (by omega)
  have q1 : t2 * v ≤ 274877906945 * 2199023255552 := by
    have h1 := Int.mul_le_mul_of_nonneg_left v2 b1
    have h2 := Int.mul_le_mul_of_nonneg_right t2b (by decide : (0 : Int) ≤ 2199023255552)
    omega
  have q2 : -(274877906945 * 2199023255552) ≤ t2 * v := by
    have h1 := Int.mul_le_mul_of_nonneg_left v1 b1
    have h2 := Int.mul_le_mul_of_nonneg_right t2b (by decide : (0 : Int) ≤ 2199023255552)
    rw [Int.mul_neg] at h1
    omega
  have h2 : halvN 2 (t, false) = (t2, false) := by
    show halvS (halvS (t, false)) = _
    rw [e1, e2]
  have hv : arcV (t2, false) = (v, false) := by
    unfold arcV arcU
    show arcSer (mulS false t2 t2).1 13 (0, (mulS false t2 t2).2) = _
    rw [eu]
    exact ev
  have hw : arcW (t2, false) = (z, false) := by
    unfold arcW
    rw [hv]
    exact ez
  refine ⟨t1, t2, u, v, z, e1, e2, eu, ev, ez, ?_, ?_, a1, a2, b1, b2, u0, by omega, v1, v2, z1, z2, u1, u2, by omega, by omega⟩
  · unfold arcS
    rw [h2, hw, IntWalk.wrap64_in (4 * z) ⟨by omega, by omega⟩]
  · rw [h2, hw]
/-- What comes of z in the quarters. -/
def fin (y x z : Int) : Int :=
  let z1 := if szw x < szw y then 1727108826179 - z else z
  let z2 := if x < 0 then 3454217652358 - z1 else z1
  if y < 0 then -z2 else z2
theorem fin_bd (y x z : Int) (h : -4398046511104 ≤ z ∧ z ≤ 4398046511104) : -17592186044416 ≤ fin y x z ∧ fin y x z ≤ 17592186044416 := by
  unfold fin
  dsimp only
  split <;> split <;> split <;> omega
theorem low_high (y x : Int) (hy : numB y = true) (hx : numB x = true) (hz : ¬ (y = 0 ∧ x = 0)) : 0 ≤ lowS y x ∧ lowS y x ≤ highS y x ∧ 0 < highS y x ∧ highS y x ≤ 4611686018427387904 := by
  unfold lowS highS
  rw [szw_of y hy, szw_of x hx]
  have h1 := sz_bd hy
  have h2 := sz_bd hx
  have h3 : 0 < sz y ∨ 0 < sz x := by
    unfold sz
    by_cases c : y = 0
    · right
      split <;> omega
    · left
      split <;> omega
  split <;> omega
theorem atanS_yes {y x : Int} (hy : numB y = true) (hx : numB x = true) (hz : ¬ (y = 0 ∧ x = 0)) :
    ∃ t z, divS false (lowS y x) (highS y x) = (t, false) ∧ arcW (halvN 2 (t, false)) = (z, false) ∧ 0 ≤ t ∧ t ≤ 1099511627776 ∧ -1099511627776 ≤ z ∧ z ≤ 1099511627776 ∧ atanS false y x = (fin y x (4 * z), false) := by
  have lh := low_high y x hy hx hz
  obtain ⟨t, et, _, _, t0, t1⟩ := divS_near _ _ lh.1 lh.2.1 lh.2.2
  obtain ⟨_, _, _, _, z, _, _, _, _, _, ez, ew, _, _, _, _, _, _, _, _, _, _, _, _, z1, z2⟩ := arc_good t ⟨t0, t1⟩
  refine ⟨t, z, et, ew, t0, t1, z1, z2, ?_⟩
  have e0 : atan0 false y x = (4 * z, false) := by unfold atan0; rw [et]; exact ez
  have e1 : atan1 false y x = (if szw x < szw y then 1727108826179 - 4 * z else 4 * z, false) := by
    unfold atan1
    rw [e0]
    split
    · exact subS_good _ _ rfl (numB_of (by omega)) (numB_of (by omega))
    · rfl
  generalize hz1 : (if szw x < szw y then 1727108826179 - 4 * z else 4 * z) = z1' at *
  have zb : -6125155337283 ≤ z1' ∧ z1' ≤ 6125155337283 := by rw [← hz1]; split <;> omega
  have e2 : atan2 false y x = (if x < 0 then 3454217652358 - z1' else z1', false) := by
    unfold atan2
    rw [e1]
    split
    · exact subS_good _ _ rfl (numB_of (by omega)) (numB_of (by omega))
    · rfl
  unfold atanS fin
  rw [if_neg hz, e2, hz1]
  dsimp only
  by_cases c : y < 0
  · rw [if_pos c, if_pos c]
    rfl
  · rw [if_neg c, if_neg c]
theorem atanS_bd (bad : Bool) (y x : Int) (hy : -9223372036854775808 ≤ y ∧ y ≤ 9223372036854775807) (hx : -9223372036854775808 ≤ x ∧ x ≤ 9223372036854775807) : -17592186044416 ≤ (atanS bad y x).1 ∧ (atanS bad y x).1 ≤ 17592186044416 := by
  cases c : tk bad [y, x]
  · rw [atanS_no hy hx c]
    decide
  · have h := tk_two c
    by_cases hz : y = 0 ∧ x = 0
    · unfold atanS
      rw [if_pos hz]
      exact ⟨by show _ ≤ (0 : Int); omega, by show (0 : Int) ≤ _; omega⟩
    · obtain ⟨t, z, _, _, _, _, z1, z2, e⟩ := atanS_yes h.2.1 h.2.2 hz
      rw [h.1, e]
      exact fin_bd y x (4 * z) (by omega)

/-! ### The angles of sines and of cosines -/
def asinQ (bad : Bool) (s : Int) : Int × Bool := subS (mulS bad s s).2 1099511627776 (mulS bad s s).1
def asinR (bad : Bool) (s : Int) : Int × Bool := sqrtS (asinQ bad s).2 (asinQ bad s).1
def asinS (bad : Bool) (s : Int) : Int × Bool := if s < -1099511627776 ∨ 1099511627776 < s then (0, true) else atanS (asinR bad s).2 s (asinR bad s).1
def acosS (bad : Bool) (s : Int) : Int × Bool := subS (asinS bad s).2 1727108826179 (asinS bad s).1
theorem sqrtS_fits (bad : Bool) (a : Int) : -9223372036854775808 ≤ (sqrtS bad a).1 ∧ (sqrtS bad a).1 ≤ 9223372036854775807 := by
  cases c : tk bad [a]
  · rw [sqrtS_no c]; decide
  · have h := tk_one c
    by_cases a0 : 0 ≤ a
    · obtain ⟨m, e, m0, _, _, m1⟩ := sqrtS_near a ⟨a0, (numB_bd h.2).2⟩
      rw [h.1, e]
      exact ⟨by show _ ≤ m; omega, by show m ≤ _; omega⟩
    · rw [sqrtS_low a0]; decide
theorem asinS_bd (bad : Bool) (s : Int) (hs : -9223372036854775808 ≤ s ∧ s ≤ 9223372036854775807) : -17592186044416 ≤ (asinS bad s).1 ∧ (asinS bad s).1 ≤ 17592186044416 := by
  unfold asinS
  split
  · decide
  · exact atanS_bd _ _ _ hs (sqrtS_fits _ _)
theorem asinS_t (s : Int) (hs : -9223372036854775808 ≤ s ∧ s ≤ 9223372036854775807) : asinS true s = (0, true) := by
  unfold asinS
  split
  · rfl
  · have e : asinR true s = (0, true) := rfl
    rw [e]
    exact atanS_no hs (by decide) rfl
end Go.Proofs.Ytndimdodendonab
