/-
  Package vec's steps and the reference's are the same; units, and how near they are, for the seat YtoadcnhcfodkgaaGreatDoor. No Go text in sight.
-/
import Derived.Test.YtoadcnhcfodkgaaGreatDoorUSpec
import Derived.Test.YtoadcnhcfodkgaaGreatDoorNear
namespace Go.Proofs.YtoadcnhcfodkgaaGreatDoor
open Go.RowKit

theorem tk_true (zs : List Int) : tk true zs = false := rfl
theorem addS_true (a b : Int) : addS true a b = (0, true) := addS_no (tk_true _)
theorem subS_true (a b : Int) : subS true a b = (0, true) := subS_no (tk_true _)
theorem mulS_true (a b : Int) : mulS true a b = (0, true) := mulS_no (tk_true _)
theorem divS_true (a b : Int) : divS true a b = (0, true) := partS_no (tk_true _)
theorem normS_true (a b c : Int) : normS true a b c = (0, true) := normS_no (tk_true _)

theorem uAdd_eq : uAddS = vAddS := rfl
theorem uSub_eq : uSubS = vSubS := rfl
theorem uScale_eq : uScaleS = vScaleS := rfl
theorem uCross_eq : uCrossS = vCrossS := rfl
theorem uNorm_eq : uNormS = vNormS := rfl
theorem uDot_eq : uDotS = vDotS := by
  funext bad p q
  unfold uDotS vDotS
  dsimp only
  generalize mulS bad p.1 q.1 = r1
  generalize mulS r1.2 p.2.1 q.2.1 = r2
  cases h2 : r2.2
  · cases hA : addS false r1.1 r2.1 with
    | mk A1 A2 =>
      cases hM : mulS false p.2.2 q.2.2 with
      | mk M1 M2 => cases A2 <;> cases M2 <;> simp [hA, hM, addS_true, mulS_true]
  · simp [addS_true, mulS_true]
theorem vCross_true (p q : V3) : vCrossS true p q = ((0, 0, 0), true) := by simp [vCrossS, mulS_true, subS_true, soundS_yes]
theorem vNorm_true (p : V3) : vNormS true p = (0, true) := by simp [vNormS, normS_true]
theorem vDot_true (p q : V3) : vDotS true p q = (0, true) := by simp [vDotS, mulS_true, addS_true]
theorem vUnit_true (p : V3) : vUnitS true p = ((0, 0, 0), true) := by
  unfold vUnitS
  rw [vNorm_true]
  exact if_pos (show (0 : Int) < 1048576 by omega)

/-! ### Lengths -/
theorem normS_good {bad : Bool} {a b c n : Int} (h : normS bad a b c = (n, false)) :
    bad = false ∧ numB a = true ∧ numB b = true ∧ numB c = true ∧ 0 ≤ n ∧ n ≤ 4611686018427387904 ∧ n * n ≤ a * a + b * b + c * c ∧ a * a + b * b + c * c < (n + 1) * (n + 1) := by
  cases ht : tk bad [a, b, c]
  · rw [normS_no ht] at h; cases h
  · have t := tk_three ht
    rw [normS_yes ht] at h
    have ha := sq_bd t.2.1
    have hb := sq_bd t.2.2.1
    have hc := sq_bd t.2.2.2
    have s := isq_spec (a * a + b * b + c * c) (by omega) (by omega)
    have g : isq (a * a + b * b + c * c) ≤ 4611686018427387904 ∧ (out (isq (a * a + b * b + c * c)) false).1 = if false = true then -isq (a * a + b * b + c * c) else isq (a * a + b * b + c * c) := out_good _ _ (by rw [h])
    have e : isq (a * a + b * b + c * c) = n := by have h3 := congrArg Prod.fst h; rw [g.2, if_neg (by decide)] at h3; exact h3
    rw [e] at s g
    exact ⟨t.1, t.2.1, t.2.2.1, t.2.2.2, s.1, g.1, s.2.1, s.2.2⟩
theorem normS_bad (bad : Bool) (a b c : Int) (h : (normS bad a b c).2 = true) : (normS bad a b c).1 = 0 := by
  unfold normS at h ⊢
  split
  · rename_i t; rw [if_pos t] at h; exact out_bad _ _ h
  · rfl
theorem normS_make {a b c n : Int} (ha : numB a = true) (hb : numB b = true) (hc : numB c = true) (n0 : 0 ≤ n) (n1 : n ≤ 4611686018427387904)
    (h1 : n * n ≤ a * a + b * b + c * c) (h2 : a * a + b * b + c * c < (n + 1) * (n + 1)) : normS false a b c = (n, false) := by
  have ha' := sq_bd ha
  have hb' := sq_bd hb
  have hc' := sq_bd hc
  have s := isq_spec (a * a + b * b + c * c) (by omega) (by omega)
  have e : isq (a * a + b * b + c * c) = n := isq_unique _ _ _ s.1 n0 s.2.1 s.2.2 h1 h2
  rw [normS_yes (by unfold tk; simp [ha, hb, hc]), e]
  unfold out
  rw [← sgnd_in n false n1, decide_eq_false (by omega)]
  rfl
theorem abs_le_of_sq {a n : Int} (h0 : 0 ≤ n) (h : a * a < (n + 1) * (n + 1)) : -n ≤ a ∧ a ≤ n := by
  constructor
  · by_cases c : -n ≤ a
    · exact c
    · have := sq_mono (by omega : (0 : Int) ≤ n + 1) (by omega : n + 1 ≤ -a)
      rw [Int.neg_mul_neg] at this
      omega
  · by_cases c : a ≤ n
    · exact c
    · have := sq_mono (by omega : (0 : Int) ≤ n + 1) (by omega : n + 1 ≤ a)
      omega
theorem sq_nonneg (a : Int) : 0 ≤ a * a := by rw [← sz_sq a]; exact Int.mul_nonneg (le_sz a).2.2 (le_sz a).2.2
/-- u is a / n, rounded, and a isn't longer than n. -/
structure Uof (u a n : Int) : Prop where
  lo : -1099511627776 ≤ u
  hi : u ≤ 1099511627776
  up : 2 * (u * n) ≤ 2 * (a * 1099511627776) + n
  dn : 2 * (a * 1099511627776) ≤ 2 * (u * n) + n
theorem div_unit (a n : Int) (hn : 0 < n ∧ n ≤ 4611686018427387904) (ha : -n ≤ a ∧ a ≤ n) : ∃ u, divS false a n = (u, false) ∧ Uof u a n := by
  obtain ⟨m, e, h1, h2, _⟩ := partS_near a 1099511627776 n (numB_of (by omega)) (by rfl) (numB_of (by omega)) hn.1 (by
    rw [show sz 1099511627776 = 1099511627776 by rfl]
    have := sz_le (A := n) ha
    omega)
  refine ⟨m, e, ?_, ?_, h1, h2⟩
  · by_cases c : -1099511627776 ≤ m
    · exact c
    · have := Int.mul_le_mul_of_nonneg_right (by omega : m ≤ -1099511627777) (by omega : 0 ≤ n)
      omega
  · by_cases c : m ≤ 1099511627776
    · exact c
    · have := Int.mul_le_mul_of_nonneg_right (by omega : (1099511627777 : Int) ≤ m) (by omega : 0 ≤ n)
      omega
theorem vUnit_cases (bad : Bool) (p : V3) :
    ((vNormS bad p).1 < 1048576 ∧ vUnitS bad p = ((0, 0, 0), true)) ∨
    (∃ n u0 u1 u2, bad = false ∧ vNormS bad p = (n, false) ∧ normS false p.1 p.2.1 p.2.2 = (n, false) ∧ 1048576 ≤ n ∧ divS false p.1 n = (u0, false) ∧ divS false p.2.1 n = (u1, false) ∧ divS false p.2.2 n = (u2, false) ∧
      vUnitS bad p = ((u0, u1, u2), false) ∧ Uof u0 p.1 n ∧ Uof u1 p.2.1 n ∧ Uof u2 p.2.2 n) := by
  have hN : vNormS bad p = normS bad p.1 p.2.1 p.2.2 := rfl
  by_cases c : (vNormS bad p).1 < 1048576
  · exact Or.inl ⟨c, by unfold vUnitS; simp [c]⟩
  · refine Or.inr ?_
    have hb : (normS bad p.1 p.2.1 p.2.2).2 = false := by
      cases hb : (normS bad p.1 p.2.1 p.2.2).2
      · rfl
      · have := normS_bad _ _ _ _ hb
        rw [hN] at c
        omega
    rw [hN] at c
    obtain ⟨n, hn⟩ : ∃ n, normS bad p.1 p.2.1 p.2.2 = (n, false) := ⟨_, Prod.ext rfl hb⟩
    have g := normS_good hn
    rw [hn] at c
    have c' : ¬ n < 1048576 := c
    have s0 := sq_nonneg p.1
    have s1 := sq_nonneg p.2.1
    have s2 := sq_nonneg p.2.2
    obtain ⟨u0, e0, U0⟩ := div_unit p.1 n (by omega) (abs_le_of_sq g.2.2.2.2.1 (by omega))
    obtain ⟨u1, e1, U1⟩ := div_unit p.2.1 n (by omega) (abs_le_of_sq g.2.2.2.2.1 (by omega))
    obtain ⟨u2, e2, U2⟩ := div_unit p.2.2 n (by omega) (abs_le_of_sq g.2.2.2.2.1 (by omega))
    have hbad := g.1
    subst hbad
    refine ⟨n, u0, u1, u2, rfl, hN.trans hn, hn, by omega, e0, e1, e2, ?_, U0, U1, U2⟩
    unfold vUnitS
    simp [hN, hn, c', e0, e1, e2]
theorem uUnit_eq : uUnitS = vUnitS := by
  funext bad p
  rcases vUnit_cases bad p with ⟨c, e⟩ | ⟨n, u0, u1, u2, rfl, hv, hn, c, e0, e1, e2, e, _⟩
  · rw [e]
    unfold uUnitS
    rw [uNorm_eq]
    simp [c, divS_true, soundS_yes]
  · rw [e]
    unfold uUnitS
    rw [uNorm_eq]
    simp [hv, show ¬ n < 1048576 by omega, e0, e1, e2, soundS_no]

/-! ### Products of what is up to 1, and some more -/
theorem absmul {a b A B : Int} (ha : -A ≤ a ∧ a ≤ A) (hb : -B ≤ b ∧ b ≤ B) : -(A * B) ≤ a * b ∧ a * b ≤ A * B := by
  have h1 := Int.mul_le_mul (sz_le ha) (sz_le hb) (le_sz b).2.2 (by omega : (0 : Int) ≤ A)
  have h2 := sz_signs a b
  have h3 := Int.mul_nonneg (le_sz a).2.2 (le_sz b).2.2
  split at h2
  · rw [h2] at h1 h3; omega
  · rw [h2] at h1 h3; omega
/-- A rounded product: its bound, and how near it is. -/
theorem mul_one (a b : Int) (ha : -4398046511104 ≤ a ∧ a ≤ 4398046511104) (hb : -4398046511104 ≤ b ∧ b ≤ 4398046511104) :
    ∃ m, mulS false a b = (m, false) ∧ m * 1099511627776 ≤ a * b + 549755813888 ∧ a * b ≤ m * 1099511627776 + 549755813888 := by
  obtain ⟨m, e, h1, h2, _⟩ := mulS_small a b (by omega) (by omega)
  exact ⟨m, e, h1, h2⟩
/-- What two of parts up to 1 are crossed to: bounds, and how near. -/
theorem cross_one (u v : V3) (hu0 : -1099511627776 ≤ u.1 ∧ u.1 ≤ 1099511627776) (hu1 : -1099511627776 ≤ u.2.1 ∧ u.2.1 ≤ 1099511627776) (hu2 : -1099511627776 ≤ u.2.2 ∧ u.2.2 ≤ 1099511627776)
    (hv0 : -1099511627776 ≤ v.1 ∧ v.1 ≤ 1099511627776) (hv1 : -1099511627776 ≤ v.2.1 ∧ v.2.1 ≤ 1099511627776) (hv2 : -1099511627776 ≤ v.2.2 ∧ v.2.2 ≤ 1099511627776) :
    ∃ c0 c1 c2, vCrossS false u v = ((c0, c1, c2), false) ∧
      (-2199023255554 ≤ c0 ∧ c0 ≤ 2199023255554) ∧ (-2199023255554 ≤ c1 ∧ c1 ≤ 2199023255554) ∧ (-2199023255554 ≤ c2 ∧ c2 ≤ 2199023255554) ∧
      (-1099511627776 ≤ c0 * 1099511627776 - (u.2.1 * v.2.2 - u.2.2 * v.2.1) ∧ c0 * 1099511627776 - (u.2.1 * v.2.2 - u.2.2 * v.2.1) ≤ 1099511627776) ∧
      (-1099511627776 ≤ c1 * 1099511627776 - (u.2.2 * v.1 - u.1 * v.2.2) ∧ c1 * 1099511627776 - (u.2.2 * v.1 - u.1 * v.2.2) ≤ 1099511627776) ∧
      (-1099511627776 ≤ c2 * 1099511627776 - (u.1 * v.2.1 - u.2.1 * v.1) ∧ c2 * 1099511627776 - (u.1 * v.2.1 - u.2.1 * v.1) ≤ 1099511627776) := by
  obtain ⟨m1, e1, a1, b1⟩ := mul_one u.2.1 v.2.2 (by omega) (by omega)
  obtain ⟨m2, e2, a2, b2⟩ := mul_one u.2.2 v.2.1 (by omega) (by omega)
  obtain ⟨m3, e3, a3, b3⟩ := mul_one u.2.2 v.1 (by omega) (by omega)
  obtain ⟨m4, e4, a4, b4⟩ := mul_one u.1 v.2.2 (by omega) (by omega)
  obtain ⟨m5, e5, a5, b5⟩ := mul_one u.1 v.2.1 (by omega) (by omega)
  obtain ⟨m6, e6, a6, b6⟩ := mul_one u.2.1 v.1 (by omega) (by omega)
  have p1 := absmul hu1 hv2
  have p2 := absmul hu2 hv1
  have p3 := absmul hu2 hv0
  have p4 := absmul hu0 hv2
  have p5 := absmul hu0 hv1
  have p6 := absmul hu1 hv0
  generalize u.2.1 * v.2.2 = q1 at *
  generalize u.2.2 * v.2.1 = q2 at *
  generalize u.2.2 * v.1 = q3 at *
  generalize u.1 * v.2.2 = q4 at *
  generalize u.1 * v.2.1 = q5 at *
  generalize u.2.1 * v.1 = q6 at *
  have g1 := subS_good m1 m2 (numB_of (by omega)) (numB_of (by omega)) (numB_of (by omega))
  have g2 := subS_good m3 m4 (numB_of (by omega)) (numB_of (by omega)) (numB_of (by omega))
  have g3 := subS_good m5 m6 (numB_of (by omega)) (numB_of (by omega)) (numB_of (by omega))
  refine ⟨m1 - m2, m3 - m4, m5 - m6, ?_, by omega, by omega, by omega, by omega, by omega, by omega⟩
  unfold vCrossS
  simp [e1, e2, e3, e4, e5, e6, g1, g2, g3, soundS_no]
/-- The Dot of parts of up to 4. -/
theorem dot_one (u v : V3) (hu0 : -2199023255554 ≤ u.1 ∧ u.1 ≤ 2199023255554) (hu1 : -2199023255554 ≤ u.2.1 ∧ u.2.1 ≤ 2199023255554) (hu2 : -2199023255554 ≤ u.2.2 ∧ u.2.2 ≤ 2199023255554)
    (hv0 : -2199023255554 ≤ v.1 ∧ v.1 ≤ 2199023255554) (hv1 : -2199023255554 ≤ v.2.1 ∧ v.2.1 ≤ 2199023255554) (hv2 : -2199023255554 ≤ v.2.2 ∧ v.2.2 ≤ 2199023255554) :
    ∃ d, vDotS false u v = (d, false) ∧ -1649267441664 ≤ d * 1099511627776 - (u.1 * v.1 + u.2.1 * v.2.1 + u.2.2 * v.2.2) ∧ d * 1099511627776 - (u.1 * v.1 + u.2.1 * v.2.1 + u.2.2 * v.2.2) ≤ 1649267441664 := by
  obtain ⟨m1, e1, a1, b1⟩ := mul_one u.1 v.1 (by omega) (by omega)
  obtain ⟨m2, e2, a2, b2⟩ := mul_one u.2.1 v.2.1 (by omega) (by omega)
  obtain ⟨m3, e3, a3, b3⟩ := mul_one u.2.2 v.2.2 (by omega) (by omega)
  have p1 := absmul hu0 hv0
  have p2 := absmul hu1 hv1
  have p3 := absmul hu2 hv2
  generalize u.1 * v.1 = q1 at *
  generalize u.2.1 * v.2.1 = q2 at *
  generalize u.2.2 * v.2.2 = q3 at *
  have g1 := addS_good m1 m2 (numB_of (by omega)) (numB_of (by omega)) (numB_of (by omega))
  have g2 := addS_good (m1 + m2) m3 (numB_of (by omega)) (numB_of (by omega)) (numB_of (by omega))
  refine ⟨m1 + m2 + m3, ?_, by omega, by omega⟩
  unfold vDotS
  simp [e1, e2, e3, g1, g2]
theorem norm_some (c : V3) (h0 : -2199023255554 ≤ c.1 ∧ c.1 ≤ 2199023255554) (h1 : -2199023255554 ≤ c.2.1 ∧ c.2.1 ≤ 2199023255554) (h2 : -2199023255554 ≤ c.2.2 ∧ c.2.2 ≤ 2199023255554) :
    ∃ n, vNormS false c = (n, false) := by
  have a0 := absmul h0 h0
  have a1 := absmul h1 h1
  have a2 := absmul h2 h2
  have s0 := sq_nonneg c.1
  have s1 := sq_nonneg c.2.1
  have s2 := sq_nonneg c.2.2
  have s := isq_spec (c.1 * c.1 + c.2.1 * c.2.1 + c.2.2 * c.2.2) (by omega) (by omega)
  refine ⟨isq (c.1 * c.1 + c.2.1 * c.2.1 + c.2.2 * c.2.2), normS_make (numB_of (by omega)) (numB_of (by omega)) (numB_of (by omega)) s.1 ?_ s.2.1 s.2.2⟩
  by_cases k : isq (c.1 * c.1 + c.2.1 * c.2.1 + c.2.2 * c.2.2) ≤ 4611686018427387904
  · exact k
  · have := sq_mono (by omega : (0 : Int) ≤ 4611686018427387905) (by omega : 4611686018427387905 ≤ isq (c.1 * c.1 + c.2.1 * c.2.1 + c.2.2 * c.2.2))
    omega
theorem uParts_eq : uPartsS = vPartsS := by
  funext bad p q
  unfold uPartsS vPartsS
  rw [uUnit_eq, uCross_eq, uNorm_eq, uDot_eq]
  rcases vUnit_cases bad p with ⟨_, e⟩ | ⟨n, u0, u1, u2, rfl, _, _, _, _, _, _, e, U0, U1, U2⟩
  · simp [e, vUnit_true, vCross_true, vNorm_true, vDot_true]
  · rcases vUnit_cases false q with ⟨_, e'⟩ | ⟨n', v0, v1, v2, _, _, _, _, _, _, _, e', V0, V1, V2⟩
    · simp [e, e', vCross_true, vNorm_true, vDot_true]
    · obtain ⟨c0, c1, c2, ec, h0, h1, h2, _⟩ := cross_one (u0, u1, u2) (v0, v1, v2) ⟨U0.lo, U0.hi⟩ ⟨U1.lo, U1.hi⟩ ⟨U2.lo, U2.hi⟩ ⟨V0.lo, V0.hi⟩ ⟨V1.lo, V1.hi⟩ ⟨V2.lo, V2.hi⟩
      obtain ⟨m, em⟩ := norm_some (c0, c1, c2) h0 h1 h2
      obtain ⟨d, ed, _⟩ := dot_one (u0, u1, u2) (v0, v1, v2) (by have := U0.lo; have := U0.hi; simp; omega) (by have := U1.lo; have := U1.hi; simp; omega) (by have := U2.lo; have := U2.hi; simp; omega) (by have := V0.lo; have := V0.hi; simp; omega) (by have := V1.lo; have := V1.hi; simp; omega) (by have := V2.lo; have := V2.hi; simp; omega)
      simp [e, e', ec, em, ed]
end Go.Proofs.YtoadcnhcfodkgaaGreatDoor
