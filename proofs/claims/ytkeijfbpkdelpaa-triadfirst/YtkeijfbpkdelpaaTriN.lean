/-
  What FromMatrix makes of a matrix that is nearly a turn, for the seat Ytkeijfbpkdelpaa. No Go text in sight.
-/
import Derived.Test.YtkeijfbpkdelpaaTriM
namespace Go.Proofs.Ytkeijfbpkdelpaa
open Go.RowKit

theorem long_bd {a b c : Int} (h : Ab (a * a + b * b + c * c - 1208925819614629174706176) 252887674388480) : Ab a 1099511627904 ∧ Ab b 1099511627904 ∧ Ab c 1099511627904 := by
  have sa := sq_nonneg a
  have sb := sq_nonneg b
  have sc := sq_nonneg c
  have := h.hi
  exact ⟨root_le (by decide) (by omega), root_le (by decide) (by omega), root_le (by decide) (by omega)⟩
theorem unit_r00 {g0 g1 g2 g3 d0 d1 d2 d3 n S m : Int} (hn : 2199023254552 ≤ n) (b0 : Ab g0 n) (b1 : Ab g1 n) (b2 : Ab g2 n) (b3 : Ab g3 n) (U0 : Uof d0 g0 n) (U1 : Uof d1 g1 n) (U2 : Uof d2 g2 n) (U3 : Uof d3 g3 n)
    (n1 : n * n ≤ S) (n2 : S ≤ n * n + 4 * n + 1) (hm : Ab m 1099511627904) (E : Ab (1099511627776 * r00 g0 g1 g2 g3 - S * m) 4835703278458516698824704000) : Ab (r00 d0 d1 d2 d3 - 1099511627776 * m) 1209462790553600 := by
  have id : 4 * (n * n * (r00 d0 d1 d2 d3 - 1099511627776 * m)) = 4398046511104 * (1099511627776 * r00 g0 g1 g2 g3 - S * m) + 4398046511104 * ((S - n * n) * m) + 4398046511104 * (g3 * (2 * (d3 * n - g3 * 1099511627776)) + g0 * (2 * (d0 * n - g0 * 1099511627776)) - g1 * (2 * (d1 * n - g1 * 1099511627776)) - g2 * (2 * (d2 * n - g2 * 1099511627776))) + r00 (2 * (d0 * n - g0 * 1099511627776)) (2 * (d1 * n - g1 * 1099511627776)) (2 * (d2 * n - g2 * 1099511627776)) (2 * (d3 * n - g3 * 1099511627776)) := by unfold r00; grind
  have c1 : Ab (S - n * n) (4 * n + 1) := ⟨by omega, by omega⟩
  have b := ((((⟨by decide, by decide⟩ : Ab 4398046511104 4398046511104).mul E).add ((⟨by decide, by decide⟩ : Ab 4398046511104 4398046511104).mul (c1.mul hm))).add ((⟨by decide, by decide⟩ : Ab 4398046511104 4398046511104).mul ((((b3.mul (uof_ab U3)).add (b0.mul (uof_ab U0))).sub (b1.mul (uof_ab U1))).sub (b2.mul (uof_ab U2))))).add (show Ab (r00 (2 * (d0 * n - g0 * 1099511627776)) (2 * (d1 * n - g1 * 1099511627776)) (2 * (d2 * n - g2 * 1099511627776)) (2 * (d3 * n - g3 * 1099511627776))) _ from (((((uof_ab U3).mul (uof_ab U3)).add ((uof_ab U0).mul (uof_ab U0))).sub ((uof_ab U1).mul (uof_ab U1))).sub ((uof_ab U2).mul (uof_ab U2))))
  rw [← id] at b
  generalize r00 d0 d1 d2 d3 - 1099511627776 * m = X at *
  have q1 : 2199023254552 * n ≤ n * n := Int.mul_le_mul_of_nonneg_right hn (by omega)
  have bl := b.lo
  have bh := b.hi
  clear id b E c1
  generalize n * n = q at *
  constructor
  · by_cases c : -1209462790553600 ≤ X
    · exact c
    · have := Int.mul_le_mul_of_nonneg_left (by omega : X ≤ -1209462790553601) (by omega : 0 ≤ q)
      omega
  · by_cases c : X ≤ 1209462790553600
    · exact c
    · have := Int.mul_le_mul_of_nonneg_left (by omega : 1209462790553601 ≤ X) (by omega : 0 ≤ q)
      omega
theorem r00_neg (x y z s : Int) : r00 (-x) (-y) (-z) (-s) = r00 x y z s := by unfold r00; grind
theorem unit_r01 {g0 g1 g2 g3 d0 d1 d2 d3 n S m : Int} (hn : 2199023254552 ≤ n) (b0 : Ab g0 n) (b1 : Ab g1 n) (b2 : Ab g2 n) (b3 : Ab g3 n) (U0 : Uof d0 g0 n) (U1 : Uof d1 g1 n) (U2 : Uof d2 g2 n) (U3 : Uof d3 g3 n)
    (n1 : n * n ≤ S) (n2 : S ≤ n * n + 4 * n + 1) (hm : Ab m 1099511627904) (E : Ab (1099511627776 * r01 g0 g1 g2 g3 - S * m) 4835703278458516698824704000) : Ab (r01 d0 d1 d2 d3 - 1099511627776 * m) 1209462790553600 := by
  have id : 4 * (n * n * (r01 d0 d1 d2 d3 - 1099511627776 * m)) = 4398046511104 * (1099511627776 * r01 g0 g1 g2 g3 - S * m) + 4398046511104 * ((S - n * n) * m) + 4398046511104 * (g0 * (2 * (d1 * n - g1 * 1099511627776)) + g1 * (2 * (d0 * n - g0 * 1099511627776)) + g3 * (2 * (d2 * n - g2 * 1099511627776)) + g2 * (2 * (d3 * n - g3 * 1099511627776))) + r01 (2 * (d0 * n - g0 * 1099511627776)) (2 * (d1 * n - g1 * 1099511627776)) (2 * (d2 * n - g2 * 1099511627776)) (2 * (d3 * n - g3 * 1099511627776)) := by unfold r01; grind
  have c1 : Ab (S - n * n) (4 * n + 1) := ⟨by omega, by omega⟩
  have b := ((((⟨by decide, by decide⟩ : Ab 4398046511104 4398046511104).mul E).add ((⟨by decide, by decide⟩ : Ab 4398046511104 4398046511104).mul (c1.mul hm))).add ((⟨by decide, by decide⟩ : Ab 4398046511104 4398046511104).mul ((((b0.mul (uof_ab U1)).add (b1.mul (uof_ab U0))).add (b3.mul (uof_ab U2))).add (b2.mul (uof_ab U3))))).add (show Ab (r01 (2 * (d0 * n - g0 * 1099511627776)) (2 * (d1 * n - g1 * 1099511627776)) (2 * (d2 * n - g2 * 1099511627776)) (2 * (d3 * n - g3 * 1099511627776))) _ from ((Ab.two.mul ((uof_ab U0).mul (uof_ab U1))).add (Ab.two.mul ((uof_ab U3).mul (uof_ab U2)))))
  rw [← id] at b
  generalize r01 d0 d1 d2 d3 - 1099511627776 * m = X at *
  have q1 : 2199023254552 * n ≤ n * n := Int.mul_le_mul_of_nonneg_right hn (by omega)
  have bl := b.lo
  have bh := b.hi
  clear id b E c1
  generalize n * n = q at *
  constructor
  · by_cases c : -1209462790553600 ≤ X
    · exact c
    · have := Int.mul_le_mul_of_nonneg_left (by omega : X ≤ -1209462790553601) (by omega : 0 ≤ q)
      omega
  · by_cases c : X ≤ 1209462790553600
    · exact c
    · have := Int.mul_le_mul_of_nonneg_left (by omega : 1209462790553601 ≤ X) (by omega : 0 ≤ q)
      omega
theorem r01_neg (x y z s : Int) : r01 (-x) (-y) (-z) (-s) = r01 x y z s := by unfold r01; grind
theorem unit_r10 {g0 g1 g2 g3 d0 d1 d2 d3 n S m : Int} (hn : 2199023254552 ≤ n) (b0 : Ab g0 n) (b1 : Ab g1 n) (b2 : Ab g2 n) (b3 : Ab g3 n) (U0 : Uof d0 g0 n) (U1 : Uof d1 g1 n) (U2 : Uof d2 g2 n) (U3 : Uof d3 g3 n)
    (n1 : n * n ≤ S) (n2 : S ≤ n * n + 4 * n + 1) (hm : Ab m 1099511627904) (E : Ab (1099511627776 * r10 g0 g1 g2 g3 - S * m) 4835703278458516698824704000) : Ab (r10 d0 d1 d2 d3 - 1099511627776 * m) 1209462790553600 := by
  have id : 4 * (n * n * (r10 d0 d1 d2 d3 - 1099511627776 * m)) = 4398046511104 * (1099511627776 * r10 g0 g1 g2 g3 - S * m) + 4398046511104 * ((S - n * n) * m) + 4398046511104 * (g0 * (2 * (d1 * n - g1 * 1099511627776)) + g1 * (2 * (d0 * n - g0 * 1099511627776)) - g3 * (2 * (d2 * n - g2 * 1099511627776)) - g2 * (2 * (d3 * n - g3 * 1099511627776))) + r10 (2 * (d0 * n - g0 * 1099511627776)) (2 * (d1 * n - g1 * 1099511627776)) (2 * (d2 * n - g2 * 1099511627776)) (2 * (d3 * n - g3 * 1099511627776)) := by unfold r10; grind
  have c1 : Ab (S - n * n) (4 * n + 1) := ⟨by omega, by omega⟩
  have b := ((((⟨by decide, by decide⟩ : Ab 4398046511104 4398046511104).mul E).add ((⟨by decide, by decide⟩ : Ab 4398046511104 4398046511104).mul (c1.mul hm))).add ((⟨by decide, by decide⟩ : Ab 4398046511104 4398046511104).mul ((((b0.mul (uof_ab U1)).add (b1.mul (uof_ab U0))).sub (b3.mul (uof_ab U2))).sub (b2.mul (uof_ab U3))))).add (show Ab (r10 (2 * (d0 * n - g0 * 1099511627776)) (2 * (d1 * n - g1 * 1099511627776)) (2 * (d2 * n - g2 * 1099511627776)) (2 * (d3 * n - g3 * 1099511627776))) _ from ((Ab.two.mul ((uof_ab U0).mul (uof_ab U1))).sub (Ab.two.mul ((uof_ab U3).mul (uof_ab U2)))))
  rw [← id] at b
  generalize r10 d0 d1 d2 d3 - 1099511627776 * m = X at *
  have q1 : 2199023254552 * n ≤ n * n := Int.mul_le_mul_of_nonneg_right hn (by omega)
  have bl := b.lo
  have bh := b.hi
  clear id b E c1
  generalize n * n = q at *
  constructor
  · by_cases c : -1209462790553600 ≤ X
    · exact c
    · have := Int.mul_le_mul_of_nonneg_left (by omega : X ≤ -1209462790553601) (by omega : 0 ≤ q)
      omega
  · by_cases c : X ≤ 1209462790553600
    · exact c
    · have := Int.mul_le_mul_of_nonneg_left (by omega : 1209462790553601 ≤ X) (by omega : 0 ≤ q)
      omega
theorem r10_neg (x y z s : Int) : r10 (-x) (-y) (-z) (-s) = r10 x y z s := by unfold r10; grind
/-- Four numbers whose matrix is the given one. -/
structure Same (q0 q1 q2 q3 m00 m01 m02 m10 m11 m12 m20 m21 m22 : Int) : Prop where
  s00 : Ab (r00 q0 q1 q2 q3 - 1099511627776 * m00) 1209462790553600
  s01 : Ab (r01 q0 q1 q2 q3 - 1099511627776 * m01) 1209462790553600
  s02 : Ab (r10 q2 q0 q1 q3 - 1099511627776 * m02) 1209462790553600
  s10 : Ab (r10 q0 q1 q2 q3 - 1099511627776 * m10) 1209462790553600
  s11 : Ab (r00 q1 q2 q0 q3 - 1099511627776 * m11) 1209462790553600
  s12 : Ab (r01 q1 q2 q0 q3 - 1099511627776 * m12) 1209462790553600
  s20 : Ab (r01 q2 q0 q1 q3 - 1099511627776 * m20) 1209462790553600
  s21 : Ab (r10 q1 q2 q0 q3 - 1099511627776 * m21) 1209462790553600
  s22 : Ab (r00 q2 q0 q1 q3 - 1099511627776 * m22) 1209462790553600
theorem from_way {g0 g1 g2 g3 S m00 m01 m02 m10 m11 m12 m20 m21 m22 : Int} (hS : S = g0 * g0 + g1 * g1 + g2 * g2 + g3 * g3) (S1 : 4835703278458516698824704 - 1869169767219200 ≤ S) (k0 : Ab g0 70368744177664) (k1 : Ab g1 70368744177664) (k2 : Ab g2 70368744177664) (k3 : Ab g3 70368744177664)
    (big : 549755813888 ≤ g0 ∨ 549755813888 ≤ g1 ∨ 549755813888 ≤ g2 ∨ 549755813888 ≤ g3) (h00 : Ab m00 1099511627904) (h01 : Ab m01 1099511627904) (h02 : Ab m02 1099511627904) (h10 : Ab m10 1099511627904) (h11 : Ab m11 1099511627904) (h12 : Ab m12 1099511627904) (h20 : Ab m20 1099511627904) (h21 : Ab m21 1099511627904) (h22 : Ab m22 1099511627904)
    (e00 : Ab (1099511627776 * r00 g0 g1 g2 g3 - S * m00) 4835703278458516698824704000) (e01 : Ab (1099511627776 * r01 g0 g1 g2 g3 - S * m01) 4835703278458516698824704000) (e02 : Ab (1099511627776 * r10 g2 g0 g1 g3 - S * m02) 4835703278458516698824704000) (e10 : Ab (1099511627776 * r10 g0 g1 g2 g3 - S * m10) 4835703278458516698824704000) (e11 : Ab (1099511627776 * r00 g1 g2 g0 g3 - S * m11) 4835703278458516698824704000) (e12 : Ab (1099511627776 * r01 g1 g2 g0 g3 - S * m12) 4835703278458516698824704000) (e20 : Ab (1099511627776 * r01 g2 g0 g1 g3 - S * m20) 4835703278458516698824704000) (e21 : Ab (1099511627776 * r10 g1 g2 g0 g3 - S * m21) 4835703278458516698824704000) (e22 : Ab (1099511627776 * r00 g2 g0 g1 g3 - S * m22) 4835703278458516698824704000) : ∃ q0 q1 q2 q3, qUnitS false (g0, g1, g2, g3) = ((q0, q1, q2, q3), false) ∧ U4 q0 q1 q2 q3 ∧ Same q0 q1 q2 q3 m00 m01 m02 m10 m11 m12 m20 m21 m22 := by
  obtain ⟨n, d0, d1, d2, d3, n0, b0, b1, b2, b3, n1, n2, U0, U1, U2, U3, e⟩ := unit_full k0 k1 k2 k3 big
  rw [← hS] at n1 n2
  have hn : 2199023254552 ≤ n := by
    by_cases c : 2199023254552 ≤ n
    · exact c
    · have := sq_mono (by omega : 0 ≤ n + 2) (by omega : n + 2 ≤ 2199023254553)
      have m : (n + 2) * (n + 2) = n * n + 4 * n + 4 := by grind
      omega
  rcases unit_math (g0, g1, g2, g3) with h | ⟨q0, q1, q2, q3, h, U⟩
  · rw [h] at e
    exact absurd (congrArg Prod.snd e) (by simp)
  · refine ⟨q0, q1, q2, q3, h, U, ?_⟩
    rw [h] at e
    by_cases c : d3 < 0
    · rw [if_pos c] at e
      simp only [Prod.mk.injEq] at e
      obtain ⟨⟨rfl, rfl, rfl, rfl⟩, _⟩ := e
      exact ⟨by rw [r00_neg]; exact unit_r00 hn b0 b1 b2 b3 U0 U1 U2 U3 n1 n2 h00 e00, by rw [r01_neg]; exact unit_r01 hn b0 b1 b2 b3 U0 U1 U2 U3 n1 n2 h01 e01, by rw [r10_neg]; exact unit_r10 hn b2 b0 b1 b3 U2 U0 U1 U3 n1 n2 h02 e02, by rw [r10_neg]; exact unit_r10 hn b0 b1 b2 b3 U0 U1 U2 U3 n1 n2 h10 e10, by rw [r00_neg]; exact unit_r00 hn b1 b2 b0 b3 U1 U2 U0 U3 n1 n2 h11 e11, by rw [r01_neg]; exact unit_r01 hn b1 b2 b0 b3 U1 U2 U0 U3 n1 n2 h12 e12, by rw [r01_neg]; exact unit_r01 hn b2 b0 b1 b3 U2 U0 U1 U3 n1 n2 h20 e20, by rw [r10_neg]; exact unit_r10 hn b1 b2 b0 b3 U1 U2 U0 U3 n1 n2 h21 e21, by rw [r00_neg]; exact unit_r00 hn b2 b0 b1 b3 U2 U0 U1 U3 n1 n2 h22 e22⟩
    · rw [if_neg c] at e
      simp only [Prod.mk.injEq] at e
      obtain ⟨⟨rfl, rfl, rfl, rfl⟩, _⟩ := e
      exact ⟨unit_r00 hn b0 b1 b2 b3 U0 U1 U2 U3 n1 n2 h00 e00, unit_r01 hn b0 b1 b2 b3 U0 U1 U2 U3 n1 n2 h01 e01, unit_r10 hn b2 b0 b1 b3 U2 U0 U1 U3 n1 n2 h02 e02, unit_r10 hn b0 b1 b2 b3 U0 U1 U2 U3 n1 n2 h10 e10, unit_r00 hn b1 b2 b0 b3 U1 U2 U0 U3 n1 n2 h11 e11, unit_r01 hn b1 b2 b0 b3 U1 U2 U0 U3 n1 n2 h12 e12, unit_r01 hn b2 b0 b1 b3 U2 U0 U1 U3 n1 n2 h20 e20, unit_r10 hn b1 b2 b0 b3 U1 U2 U0 U3 n1 n2 h21 e21, unit_r00 hn b2 b0 b1 b3 U2 U0 U1 U3 n1 n2 h22 e22⟩
/-- FromMatrix of a matrix that is nearly a turn: an attitude whose matrix is nearly that one. -/
theorem near_rot {m00 m01 m02 m10 m11 m12 m20 m21 m22 : Int} (H : Rot m00 m01 m02 m10 m11 m12 m20 m21 m22) : ∃ q0 q1 q2 q3, qFromMatrixS false (m00, m01, m02, m10, m11, m12, m20, m21, m22) = ((q0, q1, q2, q3), false) ∧ U4 q0 q1 q2 q3 ∧ Same q0 q1 q2 q3 m00 m01 m02 m10 m11 m12 m20 m21 m22 := by
  obtain ⟨h00, h10, h20⟩ := long_bd H.c00
  obtain ⟨h01, h11, h21⟩ := long_bd H.c11
  obtain ⟨h02, h12, h22⟩ := long_bd H.c22
  have t1 := add_near h00 h11 (by decide) (by decide) (by decide)
  have t2 := add_near (h00.add h11) h22 (by decide) (by decide) (by decide)
  have O : Ab 1099511627776 1099511627776 := Ab.one40
  have mx := max4_spec (m00 + m11 + m22) m00 m11 m22
  by_cases c1 : max4 (m00 + m11 + m22) m00 m11 m22 = m00 + m11 + m22
  · have s1 := sub_near h12 h21 (by decide) (by decide) (by decide)
    have s2 := sub_near h20 h02 (by decide) (by decide) (by decide)
    have s3 := sub_near h01 h10 (by decide) (by decide) (by decide)
    have s4 := add_near O ((h00.add h11).add h22) (by decide) (by decide) (by decide)
    have iw : (m12 - m21) * (m12 - m21) + (m20 - m02) * (m20 - m02) + (m01 - m10) * (m01 - m10) + (1099511627776 + (m00 + m11 + m22)) * (1099511627776 + (m00 + m11 + m22)) = 4398046511104 * (1099511627776 + (m00 + m11 + m22)) + (m00 * m00 + m10 * m10 + m20 * m20 - 1208925819614629174706176) + (m01 * m01 + m11 * m11 + m21 * m21 - 1208925819614629174706176) + (m02 * m02 + m12 * m12 + m22 * m22 - 1208925819614629174706176) + 2 * (m11 * m22 - m12 * m21 - 1099511627776 * m00) + 2 * (m22 * m00 - m20 * m02 - 1099511627776 * m11) + 2 * (m00 * m11 - m01 * m10 - 1099511627776 * m22) := by grind
    have iw2 : 4835703278458516698824704 - 1869169767219200 ≤ (m12 - m21) * (m12 - m21) + (m20 - m02) * (m20 - m02) + (m01 - m10) * (m01 - m10) + (1099511627776 + (m00 + m11 + m22)) * (1099511627776 + (m00 + m11 + m22)) := by
      rw [iw]
      have := H.c00.lo; have := H.c11.lo; have := H.c22.lo; have := H.k00.lo; have := H.k11.lo; have := H.k22.lo
      omega
    obtain ⟨q0, q1, q2, q3, e, U, r⟩ := from_way (S := (m12 - m21) * (m12 - m21) + (m20 - m02) * (m20 - m02) + (m01 - m10) * (m01 - m10) + (1099511627776 + (m00 + m11 + m22)) * (1099511627776 + (m00 + m11 + m22))) (g0 := m12 - m21) (g1 := m20 - m02) (g2 := m01 - m10) (g3 := 1099511627776 + (m00 + m11 + m22)) rfl iw2
      ((h12.sub h21).le (by decide)) ((h20.sub h02).le (by decide)) ((h01.sub h10).le (by decide)) ((O.add ((h00.add h11).add h22)).le (by decide)) (Or.inr (Or.inr (Or.inr (by omega)))) h00 h01 h02 h10 h11 h12 h20 h21 h22
      (rotW_00 H h00 h01 h02 h10 h11 h12 h20 h21 h22) (rotW_01 H h00 h01 h02 h10 h11 h12 h20 h21 h22) (by have h := rotW_10 H.next.next h22 h20 h21 h02 h00 h01 h12 h10 h11; rw [show m22 + m00 + m11 = m00 + m11 + m22 by omega, show (m01 - m10) * (m01 - m10) + (m12 - m21) * (m12 - m21) + (m20 - m02) * (m20 - m02) + (1099511627776 + (m00 + m11 + m22)) * (1099511627776 + (m00 + m11 + m22)) = (m12 - m21) * (m12 - m21) + (m20 - m02) * (m20 - m02) + (m01 - m10) * (m01 - m10) + (1099511627776 + (m00 + m11 + m22)) * (1099511627776 + (m00 + m11 + m22)) by omega] at h; exact h) (rotW_10 H h00 h01 h02 h10 h11 h12 h20 h21 h22) (by have h := rotW_00 H.next h11 h12 h10 h21 h22 h20 h01 h02 h00; rw [show m11 + m22 + m00 = m00 + m11 + m22 by omega, show (m20 - m02) * (m20 - m02) + (m01 - m10) * (m01 - m10) + (m12 - m21) * (m12 - m21) + (1099511627776 + (m00 + m11 + m22)) * (1099511627776 + (m00 + m11 + m22)) = (m12 - m21) * (m12 - m21) + (m20 - m02) * (m20 - m02) + (m01 - m10) * (m01 - m10) + (1099511627776 + (m00 + m11 + m22)) * (1099511627776 + (m00 + m11 + m22)) by omega] at h; exact h) (by have h := rotW_01 H.next h11 h12 h10 h21 h22 h20 h01 h02 h00; rw [show m11 + m22 + m00 = m00 + m11 + m22 by omega, show (m20 - m02) * (m20 - m02) + (m01 - m10) * (m01 - m10) + (m12 - m21) * (m12 - m21) + (1099511627776 + (m00 + m11 + m22)) * (1099511627776 + (m00 + m11 + m22)) = (m12 - m21) * (m12 - m21) + (m20 - m02) * (m20 - m02) + (m01 - m10) * (m01 - m10) + (1099511627776 + (m00 + m11 + m22)) * (1099511627776 + (m00 + m11 + m22)) by omega] at h; exact h) (by have h := rotW_01 H.next.next h22 h20 h21 h02 h00 h01 h12 h10 h11; rw [show m22 + m00 + m11 = m00 + m11 + m22 by omega, show (m01 - m10) * (m01 - m10) + (m12 - m21) * (m12 - m21) + (m20 - m02) * (m20 - m02) + (1099511627776 + (m00 + m11 + m22)) * (1099511627776 + (m00 + m11 + m22)) = (m12 - m21) * (m12 - m21) + (m20 - m02) * (m20 - m02) + (m01 - m10) * (m01 - m10) + (1099511627776 + (m00 + m11 + m22)) * (1099511627776 + (m00 + m11 + m22)) by omega] at h; exact h) (by have h := rotW_10 H.next h11 h12 h10 h21 h22 h20 h01 h02 h00; rw [show m11 + m22 + m00 = m00 + m11 + m22 by omega, show (m20 - m02) * (m20 - m02) + (m01 - m10) * (m01 - m10) + (m12 - m21) * (m12 - m21) + (1099511627776 + (m00 + m11 + m22)) * (1099511627776 + (m00 + m11 + m22)) = (m12 - m21) * (m12 - m21) + (m20 - m02) * (m20 - m02) + (m01 - m10) * (m01 - m10) + (1099511627776 + (m00 + m11 + m22)) * (1099511627776 + (m00 + m11 + m22)) by omega] at h; exact h) (by have h := rotW_00 H.next.next h22 h20 h21 h02 h00 h01 h12 h10 h11; rw [show m22 + m00 + m11 = m00 + m11 + m22 by omega, show (m01 - m10) * (m01 - m10) + (m12 - m21) * (m12 - m21) + (m20 - m02) * (m20 - m02) + (1099511627776 + (m00 + m11 + m22)) * (1099511627776 + (m00 + m11 + m22)) = (m12 - m21) * (m12 - m21) + (m20 - m02) * (m20 - m02) + (m01 - m10) * (m01 - m10) + (1099511627776 + (m00 + m11 + m22)) * (1099511627776 + (m00 + m11 + m22)) by omega] at h; exact h)
    refine ⟨q0, q1, q2, q3, ?_, U, r⟩
    unfold qFromMatrixS qbyWS
    simp only [t1, t2, if_pos c1, s1, s2, s3, s4, e]
  · by_cases c2 : max4 (m00 + m11 + m22) m00 m11 m22 = m00
    · have s1 := add_near O h00 (by decide) (by decide) (by decide)
      have s2 := sub_near (O.add h00) h11 (by decide) (by decide) (by decide)
      have s3 := sub_near ((O.add h00).sub h11) h22 (by decide) (by decide) (by decide)
      have s4 := add_near h01 h10 (by decide) (by decide) (by decide)
      have s5 := add_near h20 h02 (by decide) (by decide) (by decide)
      have s6 := sub_near h12 h21 (by decide) (by decide) (by decide)
      have N : Rot m00 m01 m02 m10 m11 m12 m20 m21 m22 := H
      have iw : (1099511627776 + m00 - m11 - m22) * (1099511627776 + m00 - m11 - m22) + (m01 + m10) * (m01 + m10) + (m20 + m02) * (m20 + m02) + (m12 - m21) * (m12 - m21) = 4398046511104 * (1099511627776 + m00 - m11 - m22) + (m00 * m00 + m10 * m10 + m20 * m20 - 1208925819614629174706176) + (m01 * m01 + m11 * m11 + m21 * m21 - 1208925819614629174706176) + (m02 * m02 + m12 * m12 + m22 * m22 - 1208925819614629174706176) + 2 * (m11 * m22 - m12 * m21 - 1099511627776 * m00) - 2 * (m22 * m00 - m20 * m02 - 1099511627776 * m11) - 2 * (m00 * m11 - m01 * m10 - 1099511627776 * m22) := by grind
      have iw2 : 4835703278458516698824704 - 1869169767219200 ≤ (1099511627776 + m00 - m11 - m22) * (1099511627776 + m00 - m11 - m22) + (m01 + m10) * (m01 + m10) + (m20 + m02) * (m20 + m02) + (m12 - m21) * (m12 - m21) := by
        rw [iw]
        have := N.c00.lo; have := N.c11.lo; have := N.c22.lo; have := N.k00.lo; have := N.k11.hi; have := N.k22.hi
        omega
      obtain ⟨q0, q1, q2, q3, e, U, r⟩ := from_way (S := (1099511627776 + m00 - m11 - m22) * (1099511627776 + m00 - m11 - m22) + (m01 + m10) * (m01 + m10) + (m20 + m02) * (m20 + m02) + (m12 - m21) * (m12 - m21)) (g0 := 1099511627776 + m00 - m11 - m22) (g1 := m01 + m10) (g2 := m20 + m02) (g3 := m12 - m21) (by omega) iw2
        ((((O.add h00).sub h11).sub h22).le (by decide)) ((h01.add h10).le (by decide)) ((h20.add h02).le (by decide)) ((h12.sub h21).le (by decide)) (Or.inl (by omega)) h00 h01 h02 h10 h11 h12 h20 h21 h22
        (rotX_00 H h00 h01 h02 h10 h11 h12 h20 h21 h22) (rotX_01 H h00 h01 h02 h10 h11 h12 h20 h21 h22) (rotX_02 H h00 h01 h02 h10 h11 h12 h20 h21 h22) (rotX_10 H h00 h01 h02 h10 h11 h12 h20 h21 h22) (rotX_11 H h00 h01 h02 h10 h11 h12 h20 h21 h22) (rotX_12 H h00 h01 h02 h10 h11 h12 h20 h21 h22) (rotX_20 H h00 h01 h02 h10 h11 h12 h20 h21 h22) (rotX_21 H h00 h01 h02 h10 h11 h12 h20 h21 h22) (rotX_22 H h00 h01 h02 h10 h11 h12 h20 h21 h22)
      refine ⟨q0, q1, q2, q3, ?_, U, r⟩
      unfold qFromMatrixS qbyXS
      simp only [t1, t2, if_neg c1, if_pos c2, s1, s2, s3, s4, s5, s6, e]
    · by_cases c3 : max4 (m00 + m11 + m22) m00 m11 m22 = m11
      · have s1 := add_near h01 h10 (by decide) (by decide) (by decide)
        have s2 := add_near O h11 (by decide) (by decide) (by decide)
        have s3 := sub_near (O.add h11) h22 (by decide) (by decide) (by decide)
        have s4 := sub_near ((O.add h11).sub h22) h00 (by decide) (by decide) (by decide)
        have s5 := add_near h12 h21 (by decide) (by decide) (by decide)
        have s6 := sub_near h20 h02 (by decide) (by decide) (by decide)
        have N : Rot m11 m12 m10 m21 m22 m20 m01 m02 m00 := H.next
        have iw : (1099511627776 + m11 - m22 - m00) * (1099511627776 + m11 - m22 - m00) + (m12 + m21) * (m12 + m21) + (m01 + m10) * (m01 + m10) + (m20 - m02) * (m20 - m02) = 4398046511104 * (1099511627776 + m11 - m22 - m00) + (m11 * m11 + m21 * m21 + m01 * m01 - 1208925819614629174706176) + (m12 * m12 + m22 * m22 + m02 * m02 - 1208925819614629174706176) + (m10 * m10 + m20 * m20 + m00 * m00 - 1208925819614629174706176) + 2 * (m22 * m00 - m20 * m02 - 1099511627776 * m11) - 2 * (m00 * m11 - m01 * m10 - 1099511627776 * m22) - 2 * (m11 * m22 - m12 * m21 - 1099511627776 * m00) := by grind
        have iw2 : 4835703278458516698824704 - 1869169767219200 ≤ (1099511627776 + m11 - m22 - m00) * (1099511627776 + m11 - m22 - m00) + (m12 + m21) * (m12 + m21) + (m01 + m10) * (m01 + m10) + (m20 - m02) * (m20 - m02) := by
          rw [iw]
          have := N.c00.lo; have := N.c11.lo; have := N.c22.lo; have := N.k00.lo; have := N.k11.hi; have := N.k22.hi
          omega
        obtain ⟨q0, q1, q2, q3, e, U, r⟩ := from_way (S := (1099511627776 + m11 - m22 - m00) * (1099511627776 + m11 - m22 - m00) + (m12 + m21) * (m12 + m21) + (m01 + m10) * (m01 + m10) + (m20 - m02) * (m20 - m02)) (g0 := m01 + m10) (g1 := 1099511627776 + m11 - m22 - m00) (g2 := m12 + m21) (g3 := m20 - m02) (by omega) iw2
          ((h01.add h10).le (by decide)) ((((O.add h11).sub h22).sub h00).le (by decide)) ((h12.add h21).le (by decide)) ((h20.sub h02).le (by decide)) (Or.inr (Or.inl (by omega))) h00 h01 h02 h10 h11 h12 h20 h21 h22
          (rotX_22 H.next h11 h12 h10 h21 h22 h20 h01 h02 h00) (rotX_20 H.next h11 h12 h10 h21 h22 h20 h01 h02 h00) (rotX_21 H.next h11 h12 h10 h21 h22 h20 h01 h02 h00) (rotX_02 H.next h11 h12 h10 h21 h22 h20 h01 h02 h00) (rotX_00 H.next h11 h12 h10 h21 h22 h20 h01 h02 h00) (rotX_01 H.next h11 h12 h10 h21 h22 h20 h01 h02 h00) (rotX_12 H.next h11 h12 h10 h21 h22 h20 h01 h02 h00) (rotX_10 H.next h11 h12 h10 h21 h22 h20 h01 h02 h00) (rotX_11 H.next h11 h12 h10 h21 h22 h20 h01 h02 h00)
        refine ⟨q0, q1, q2, q3, ?_, U, r⟩
        unfold qFromMatrixS qbyYS
        simp only [t1, t2, if_neg c1, if_neg c2, if_pos c3, s1, s2, s3, s4, s5, s6, e]
      · have s1 := add_near h20 h02 (by decide) (by decide) (by decide)
        have s2 := add_near h12 h21 (by decide) (by decide) (by decide)
        have s3 := add_near O h22 (by decide) (by decide) (by decide)
        have s4 := sub_near (O.add h22) h00 (by decide) (by decide) (by decide)
        have s5 := sub_near ((O.add h22).sub h00) h11 (by decide) (by decide) (by decide)
        have s6 := sub_near h01 h10 (by decide) (by decide) (by decide)
        have N : Rot m22 m20 m21 m02 m00 m01 m12 m10 m11 := H.next.next
        have iw : (1099511627776 + m22 - m00 - m11) * (1099511627776 + m22 - m00 - m11) + (m20 + m02) * (m20 + m02) + (m12 + m21) * (m12 + m21) + (m01 - m10) * (m01 - m10) = 4398046511104 * (1099511627776 + m22 - m00 - m11) + (m22 * m22 + m02 * m02 + m12 * m12 - 1208925819614629174706176) + (m20 * m20 + m00 * m00 + m10 * m10 - 1208925819614629174706176) + (m21 * m21 + m01 * m01 + m11 * m11 - 1208925819614629174706176) + 2 * (m00 * m11 - m01 * m10 - 1099511627776 * m22) - 2 * (m11 * m22 - m12 * m21 - 1099511627776 * m00) - 2 * (m22 * m00 - m20 * m02 - 1099511627776 * m11) := by grind
        have iw2 : 4835703278458516698824704 - 1869169767219200 ≤ (1099511627776 + m22 - m00 - m11) * (1099511627776 + m22 - m00 - m11) + (m20 + m02) * (m20 + m02) + (m12 + m21) * (m12 + m21) + (m01 - m10) * (m01 - m10) := by
          rw [iw]
          have := N.c00.lo; have := N.c11.lo; have := N.c22.lo; have := N.k00.lo; have := N.k11.hi; have := N.k22.hi
          omega
        obtain ⟨q0, q1, q2, q3, e, U, r⟩ := from_way (S := (1099511627776 + m22 - m00 - m11) * (1099511627776 + m22 - m00 - m11) + (m20 + m02) * (m20 + m02) + (m12 + m21) * (m12 + m21) + (m01 - m10) * (m01 - m10)) (g0 := m20 + m02) (g1 := m12 + m21) (g2 := 1099511627776 + m22 - m00 - m11) (g3 := m01 - m10) (by omega) iw2
          ((h20.add h02).le (by decide)) ((h12.add h21).le (by decide)) ((((O.add h22).sub h00).sub h11).le (by decide)) ((h01.sub h10).le (by decide)) (Or.inr (Or.inr (Or.inl (by omega)))) h00 h01 h02 h10 h11 h12 h20 h21 h22
          (rotX_11 H.next.next h22 h20 h21 h02 h00 h01 h12 h10 h11) (rotX_12 H.next.next h22 h20 h21 h02 h00 h01 h12 h10 h11) (rotX_10 H.next.next h22 h20 h21 h02 h00 h01 h12 h10 h11) (rotX_21 H.next.next h22 h20 h21 h02 h00 h01 h12 h10 h11) (rotX_22 H.next.next h22 h20 h21 h02 h00 h01 h12 h10 h11) (rotX_20 H.next.next h22 h20 h21 h02 h00 h01 h12 h10 h11) (rotX_01 H.next.next h22 h20 h21 h02 h00 h01 h12 h10 h11) (rotX_02 H.next.next h22 h20 h21 h02 h00 h01 h12 h10 h11) (rotX_00 H.next.next h22 h20 h21 h02 h00 h01 h12 h10 h11)
        refine ⟨q0, q1, q2, q3, ?_, U, r⟩
        unfold qFromMatrixS qbyZS
        simp only [t1, t2, if_neg c1, if_neg c2, if_neg c3, s1, s2, s3, s4, s5, s6, e]
end Go.Proofs.Ytkeijfbpkdelpaa
