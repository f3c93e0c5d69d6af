/-
  Of two directions, seen under an attitude, that attitude is found again, but for some last bits: for the seat Ytkeijfbpkdelpaa. No Go text in sight.
-/
import Derived.Test.YtkeijfbpkdelpaaTriC
namespace Go.Proofs.Ytkeijfbpkdelpaa
open Go.RowKit

theorem Ab.of_eq {x y K : Int} (h : Ab x K) (e : x = y) : Ab y K := e ▸ h
theorem axial {Q10 Q11 Q12 Q20 Q21 Q22 R10 R11 R12 R20 R21 R22 X1 X2 V1 V2 W1 W2 a0 a1 a2 v0 v1 v2 w0 w1 w2 : Int}
    (h10 : Ab (2 * (Q10 - (X1 * a0 + V1 * v0 + W1 * w0))) 2422224115990528) (b10 : Ab R10 1208925819628922825867264)
    (h11 : Ab (2 * (Q11 - (X1 * a1 + V1 * v1 + W1 * w1))) 2422224115990528) (b11 : Ab R11 1208925819628922825867264)
    (h12 : Ab (2 * (Q12 - (X1 * a2 + V1 * v2 + W1 * w2))) 2422224115990528) (b12 : Ab R12 1208925819628922825867264)
    (h20 : Ab (2 * (Q20 - (X2 * a0 + V2 * v0 + W2 * w0))) 2422224115990528) (b20 : Ab R20 1208925819628922825867264)
    (h21 : Ab (2 * (Q21 - (X2 * a1 + V2 * v1 + W2 * w1))) 2422224115990528) (b21 : Ab R21 1208925819628922825867264)
    (h22 : Ab (2 * (Q22 - (X2 * a2 + V2 * v2 + W2 * w2))) 2422224115990528) (b22 : Ab R22 1208925819628922825867264)
    (t1 : Ab (X1 * (R22 * a2 + R20 * a0 + R21 * a1) - X2 * (R11 * a1 + R12 * a2 + R10 * a0)) 61144487806106130153575124772895850496)
    (t2 : Ab (V1 * (R22 * v2 + R20 * v0 + R21 * v1) - V2 * (R11 * v1 + R12 * v2 + R10 * v0)) 1076674676585781857052083718827079106560)
    (t3 : Ab (W1 * (R22 * w2 + R20 * w0 + R21 * w1) - W2 * (R11 * w1 + R12 * w2 + R10 * w0)) 2724917391359077539452804473574706380800)
    : Ab (2 * (Q10 * R20 + Q11 * R21 + Q12 * R22 - (Q20 * R10 + Q21 * R11 + Q22 * R12))) 25308501039744798220088486427737760727040 := by
  have id : 2 * (Q10 * R20 + Q11 * R21 + Q12 * R22 - (Q20 * R10 + Q21 * R11 + Q22 * R12)) = 2 * (Q10 - (X1 * a0 + V1 * v0 + W1 * w0)) * R20 + 2 * (Q11 - (X1 * a1 + V1 * v1 + W1 * w1)) * R21 + 2 * (Q12 - (X1 * a2 + V1 * v2 + W1 * w2)) * R22 - (2 * (Q20 - (X2 * a0 + V2 * v0 + W2 * w0)) * R10 + 2 * (Q21 - (X2 * a1 + V2 * v1 + W2 * w1)) * R11 + 2 * (Q22 - (X2 * a2 + V2 * v2 + W2 * w2)) * R12)
      + 2 * ((X1 * (R22 * a2 + R20 * a0 + R21 * a1) - X2 * (R11 * a1 + R12 * a2 + R10 * a0)) + (V1 * (R22 * v2 + R20 * v0 + R21 * v1) - V2 * (R11 * v1 + R12 * v2 + R10 * v0)) + (W1 * (R22 * w2 + R20 * w0 + R21 * w1) - W2 * (R11 * w1 + R12 * w2 + R10 * w0))) := by grind
  rw [id]
  exact (((((h10.mul b20).add (h11.mul b21)).add (h12.mul b22)).sub (((h20.mul b10).add (h21.mul b11)).add (h22.mul b12))).add (Ab.two.mul ((t1.add t2).add t3))).le (by decide)
theorem traced {Q00 Q01 Q02 Q10 Q11 Q12 Q20 Q21 Q22 R00 R01 R02 R10 R11 R12 R20 R21 R22 X0 X1 X2 V0 V1 V2 W0 W1 W2 a0 a1 a2 v0 v1 v2 w0 w1 w2 : Int}
    (h00 : Ab (2 * (Q00 - (X0 * a0 + V0 * v0 + W0 * w0))) 2422224115990528) (b00 : Ab R00 1208925819628922825867264)
    (h01 : Ab (2 * (Q01 - (X0 * a1 + V0 * v1 + W0 * w1))) 2422224115990528) (b01 : Ab R01 1208925819628922825867264)
    (h02 : Ab (2 * (Q02 - (X0 * a2 + V0 * v2 + W0 * w2))) 2422224115990528) (b02 : Ab R02 1208925819628922825867264)
    (h10 : Ab (2 * (Q10 - (X1 * a0 + V1 * v0 + W1 * w0))) 2422224115990528) (b10 : Ab R10 1208925819628922825867264)
    (h11 : Ab (2 * (Q11 - (X1 * a1 + V1 * v1 + W1 * w1))) 2422224115990528) (b11 : Ab R11 1208925819628922825867264)
    (h12 : Ab (2 * (Q12 - (X1 * a2 + V1 * v2 + W1 * w2))) 2422224115990528) (b12 : Ab R12 1208925819628922825867264)
    (h20 : Ab (2 * (Q20 - (X2 * a0 + V2 * v0 + W2 * w0))) 2422224115990528) (b20 : Ab R20 1208925819628922825867264)
    (h21 : Ab (2 * (Q21 - (X2 * a1 + V2 * v1 + W2 * w1))) 2422224115990528) (b21 : Ab R21 1208925819628922825867264)
    (h22 : Ab (2 * (Q22 - (X2 * a2 + V2 * v2 + W2 * w2))) 2422224115990528) (b22 : Ab R22 1208925819628922825867264)
    (d1 : 1446886620957593889021647984389120189459373217546 ≤ (X0 * (R00 * a0 + R01 * a1 + R02 * a2) + X1 * (R11 * a1 + R12 * a2 + R10 * a0) + X2 * (R22 * a2 + R20 * a0 + R21 * a1))) (d2 : 0 ≤ (V0 * (R00 * v0 + R01 * v1 + R02 * v2) + V1 * (R11 * v1 + R12 * v2 + R10 * v0) + V2 * (R22 * v2 + R20 * v0 + R21 * v1))) (d3 : 0 ≤ (W0 * (R00 * w0 + R01 * w1 + R02 * w2) + W1 * (R11 * w1 + R12 * w2 + R10 * w0) + W2 * (R22 * w2 + R20 * w0 + R21 * w1))) : 2 * 1446886620957593889021647984389120189459373217546 - 9 * (2422224115990528 * 1208925819628922825867264) ≤ 2 * (Q00 * R00 + Q01 * R01 + Q02 * R02 + Q10 * R10 + Q11 * R11 + Q12 * R12 + Q20 * R20 + Q21 * R21 + Q22 * R22) := by
  have id : 2 * (Q00 * R00 + Q01 * R01 + Q02 * R02 + Q10 * R10 + Q11 * R11 + Q12 * R12 + Q20 * R20 + Q21 * R21 + Q22 * R22) = (2 * (Q00 - (X0 * a0 + V0 * v0 + W0 * w0)) * R00 + 2 * (Q01 - (X0 * a1 + V0 * v1 + W0 * w1)) * R01 + 2 * (Q02 - (X0 * a2 + V0 * v2 + W0 * w2)) * R02 + 2 * (Q10 - (X1 * a0 + V1 * v0 + W1 * w0)) * R10 + 2 * (Q11 - (X1 * a1 + V1 * v1 + W1 * w1)) * R11 + 2 * (Q12 - (X1 * a2 + V1 * v2 + W1 * w2)) * R12 + 2 * (Q20 - (X2 * a0 + V2 * v0 + W2 * w0)) * R20 + 2 * (Q21 - (X2 * a1 + V2 * v1 + W2 * w1)) * R21 + 2 * (Q22 - (X2 * a2 + V2 * v2 + W2 * w2)) * R22) + 2 * ((X0 * (R00 * a0 + R01 * a1 + R02 * a2) + X1 * (R11 * a1 + R12 * a2 + R10 * a0) + X2 * (R22 * a2 + R20 * a0 + R21 * a1)) + (V0 * (R00 * v0 + R01 * v1 + R02 * v2) + V1 * (R11 * v1 + R12 * v2 + R10 * v0) + V2 * (R22 * v2 + R20 * v0 + R21 * v1)) + (W0 * (R00 * w0 + R01 * w1 + R02 * w2) + W1 * (R11 * w1 + R12 * w2 + R10 * w0) + W2 * (R22 * w2 + R20 * w0 + R21 * w1))) := by grind
  have b := (((((((((h00.mul b00).add (h01.mul b01)).add (h02.mul b02)).add (h10.mul b10)).add (h11.mul b11)).add (h12.mul b12)).add (h20.mul b20)).add (h21.mul b21)).add (h22.mul b22))
  rw [id]
  have := b.lo
  omega
theorem quat_axial0 (q0 q1 q2 q3 x y z s : Int) : 4 * ((q3 * s + q0 * x + q1 * y + q2 * z) * (q0 * s + -x * q3 + (-y * q2 - -z * q1))) = r10 q0 q1 q2 q3 * r01 z x y s + r00 q1 q2 q0 q3 * r10 y z x s + r01 q1 q2 q0 q3 * r00 z x y s - (r01 q2 q0 q1 q3 * r10 x y z s + r10 q1 q2 q0 q3 * r00 y z x s + r00 q2 q0 q1 q3 * r01 y z x s) := by unfold r00 r01 r10; grind
theorem quat_axial1 (q0 q1 q2 q3 x y z s : Int) : 4 * ((q3 * s + q0 * x + q1 * y + q2 * z) * (q1 * s + -y * q3 + (-z * q0 - -x * q2))) = r01 q2 q0 q1 q3 * r00 x y z s + r10 q1 q2 q0 q3 * r01 x y z s + r00 q2 q0 q1 q3 * r10 z x y s - (r00 q0 q1 q2 q3 * r01 z x y s + r01 q0 q1 q2 q3 * r10 y z x s + r10 q2 q0 q1 q3 * r00 z x y s) := by unfold r00 r01 r10; grind
theorem quat_axial2 (q0 q1 q2 q3 x y z s : Int) : 4 * ((q3 * s + q0 * x + q1 * y + q2 * z) * (q2 * s + -z * q3 + (-x * q1 - -y * q0))) = r00 q0 q1 q2 q3 * r10 x y z s + r01 q0 q1 q2 q3 * r00 y z x s + r10 q2 q0 q1 q3 * r01 y z x s - (r10 q0 q1 q2 q3 * r00 x y z s + r00 q1 q2 q0 q3 * r01 x y z s + r01 q1 q2 q0 q3 * r10 z x y s) := by unfold r00 r01 r10; grind
theorem quat_trace (q0 q1 q2 q3 x y z s : Int) : 4 * ((q3 * s + q0 * x + q1 * y + q2 * z) * (q3 * s + q0 * x + q1 * y + q2 * z)) = r00 q0 q1 q2 q3 * r00 x y z s + r01 q0 q1 q2 q3 * r01 x y z s + r10 q2 q0 q1 q3 * r10 z x y s + r10 q0 q1 q2 q3 * r10 x y z s + r00 q1 q2 q0 q3 * r00 y z x s + r01 q1 q2 q0 q3 * r01 y z x s + r01 q2 q0 q1 q3 * r01 z x y s + r10 q1 q2 q0 q3 * r10 y z x s + r00 q2 q0 q1 q3 * r00 z x y s + (q0 * q0 + q1 * q1 + q2 * q2 + q3 * q3) * (x * x + y * y + z * z + s * s) := by unfold r00 r01 r10; grind
theorem part_of {w p d : Int} (hw : 846248073730240422294323 ≤ w ∨ w ≤ -846248073730240422294323) (h : Ab (2 * (4 * (w * p))) 25308501039744798220088486427737760727040) (hd : Ab (1099511627776 * d - p) 2199023255552) : Ab d 4096 := by
  have hp : Ab p 3739000000000000 := by
    have bl := h.lo
    have bh := h.hi
    constructor
    · by_cases c : -3739000000000000 ≤ p
      · exact c
      · rcases hw with hw | hw
        · have := Int.mul_le_mul_of_nonneg_left (by omega : p ≤ -3739000000000001) (by omega : 0 ≤ w)
          omega
        · have := Int.mul_le_mul_of_nonneg_left (by omega : p ≤ -3739000000000001) (by omega : 0 ≤ -w)
          simp only [Int.neg_mul] at this
          omega
    · by_cases c : p ≤ 3739000000000000
      · exact c
      · rcases hw with hw | hw
        · have := Int.mul_le_mul_of_nonneg_left (by omega : 3739000000000001 ≤ p) (by omega : 0 ≤ w)
          omega
        · have := Int.mul_le_mul_of_nonneg_left (by omega : 3739000000000001 ≤ p) (by omega : 0 ≤ -w)
          simp only [Int.neg_mul] at this
          omega
  have := hp.lo; have := hp.hi; have := hd.lo; have := hd.hi
  constructor <;> omega
theorem near_sum {Q m X V W a v w : Int} (s : Ab (Q - 1099511627776 * m) 1209462790553600) (p : Pl m X V W a v w) : Ab (2 * (Q - (X * a + V * v + W * w))) 2422224115990528 := by
  have k : Ab (2 * (1099511627776 * m - (X * a + V * v + W * w))) 3298534883328 := p
  have := s.lo; have := s.hi; have := k.lo; have := k.hi
  constructor <;> omega
/-- The attitude of the matrix of a frame and that frame, turned. -/
theorem found {q0 q1 q2 q3 x y z s X0 X1 X2 V0 V1 V2 W0 W1 W2 a0 a1 a2 v0 v1 v2 w0 w1 w2 m00 m01 m02 m10 m11 m12 m20 m21 m22 : Int} (Q : U4 q0 q1 q2 q3) (U : U4 x y z s) (S : Same q0 q1 q2 q3 m00 m01 m02 m10 m11 m12 m20 m21 m22) (p00 : Pl m00 X0 V0 W0 a0 v0 w0) (p01 : Pl m01 X0 V0 W0 a1 v1 w1) (p02 : Pl m02 X0 V0 W0 a2 v2 w2) (p10 : Pl m10 X1 V1 W1 a0 v0 w0) (p11 : Pl m11 X1 V1 W1 a1 v1 w1) (p12 : Pl m12 X1 V1 W1 a2 v2 w2) (p20 : Pl m20 X2 V2 W2 a0 v0 w0) (p21 : Pl m21 X2 V2 W2 a1 v1 w1) (p22 : Pl m22 X2 V2 W2 a2 v2 w2)
    (t00 : Ab (X1 * rvc z x y s a2 a0 a1 - X2 * rvc y z x s a1 a2 a0) 61144487806106130153575124772895850496) (t01 : Ab (X2 * rvc x y z s a0 a1 a2 - X0 * rvc z x y s a2 a0 a1) 61144487806106130153575124772895850496) (t02 : Ab (X0 * rvc y z x s a1 a2 a0 - X1 * rvc x y z s a0 a1 a2) 61144487806106130153575124772895850496) (t10 : Ab (V1 * rvc z x y s v2 v0 v1 - V2 * rvc y z x s v1 v2 v0) 1076674676585781857052083718827079106560) (t11 : Ab (V2 * rvc x y z s v0 v1 v2 - V0 * rvc z x y s v2 v0 v1) 1076674676585781857052083718827079106560) (t12 : Ab (V0 * rvc y z x s v1 v2 v0 - V1 * rvc x y z s v0 v1 v2) 1076674676585781857052083718827079106560) (t20 : Ab (W1 * rvc z x y s w2 w0 w1 - W2 * rvc y z x s w1 w2 w0) 2724917391359077539452804473574706380800) (t21 : Ab (W2 * rvc x y z s w0 w1 w2 - W0 * rvc z x y s w2 w0 w1) 2724917391359077539452804473574706380800) (t22 : Ab (W0 * rvc y z x s w1 w2 w0 - W1 * rvc x y z s w0 w1 w2) 2724917391359077539452804473574706380800)
    (d0 : 1446886620957593889021647984389120189459373217546 ≤ X0 * rvc x y z s a0 a1 a2 + X1 * rvc y z x s a1 a2 a0 + X2 * rvc z x y s a2 a0 a1) (d1 : 0 ≤ V0 * rvc x y z s v0 v1 v2 + V1 * rvc y z x s v1 v2 v0 + V2 * rvc z x y s v2 v0 v1) (d2 : 0 ≤ W0 * rvc x y z s w0 w1 w2 + W1 * rvc y z x s w1 w2 w0 + W2 * rvc z x y s w2 w0 w1) : ∃ d0 d1 d2 d3, qMulS false (q0, q1, q2, q3) (-x, -y, -z, s) = ((d0, d1, d2, d3), false) ∧ Ab d0 4096 ∧ Ab d1 4096 ∧ Ab d2 4096 := by
  obtain ⟨e0, e1, e2, e3, ed, _, _, _, _, m0, m1, m2, _⟩ := mul4_near Q.a0 Q.a1 Q.a2 Q.a3 U.a0.neg U.a1.neg U.a2.neg U.a3
  have T := traced (near_sum S.s00 p00) (r_bd U).1 (near_sum S.s01 p01) (r_bd U).2.1 (near_sum S.s02 p02) (r_bd U.next.next).2.2 (near_sum S.s10 p10) (r_bd U).2.2 (near_sum S.s11 p11) (r_bd U.next).1 (near_sum S.s12 p12) (r_bd U.next).2.1 (near_sum S.s20 p20) (r_bd U.next.next).2.1 (near_sum S.s21 p21) (r_bd U.next).2.2 (near_sum S.s22 p22) (r_bd U.next.next).1 d0 d1 d2
  have qt := quat_trace q0 q1 q2 q3 x y z s
  have hw : 846248073730240422294323 ≤ (q3 * s + q0 * x + q1 * y + q2 * z) ∨ (q3 * s + q0 * x + q1 * y + q2 * z) ≤ -846248073730240422294323 := by
    have g := Int.mul_le_mul (by have := Q.len.lo; omega : 1208925819600335523545088 ≤ q0 * q0 + q1 * q1 + q2 * q2 + q3 * q3) (by have := U.len.lo; omega : 1208925819600335523545088 ≤ x * x + y * y + z * z + s * s) (by decide) (by have := Q.len.lo; omega)
    generalize (q0 * q0 + q1 * q1 + q2 * q2 + q3 * q3) * (x * x + y * y + z * z + s * s) = NN at *
    generalize (q3 * s + q0 * x + q1 * y + q2 * z) = P at *
    by_cases c : 846248073730240422294323 ≤ P
    · exact Or.inl c
    · by_cases c' : P ≤ -846248073730240422294323
      · exact Or.inr c'
      · have k := (⟨by omega, by omega⟩ : Ab P 846248073730240422294323)
        have := (k.mul k).hi
        omega
  have A0 := axial (near_sum S.s10 p10) (r_bd U).2.2 (near_sum S.s11 p11) (r_bd U.next).1 (near_sum S.s12 p12) (r_bd U.next).2.1 (near_sum S.s20 p20) (r_bd U.next.next).2.1 (near_sum S.s21 p21) (r_bd U.next).2.2 (near_sum S.s22 p22) (r_bd U.next.next).1 t00 t10 t20
  have A1 := axial (near_sum S.s21 p21) (r_bd U.next).2.2 (near_sum S.s22 p22) (r_bd U.next.next).1 (near_sum S.s20 p20) (r_bd U.next.next).2.1 (near_sum S.s01 p01) (r_bd U).2.1 (near_sum S.s02 p02) (r_bd U.next.next).2.2 (near_sum S.s00 p00) (r_bd U).1 t01 t11 t21
  have A2 := axial (near_sum S.s02 p02) (r_bd U.next.next).2.2 (near_sum S.s00 p00) (r_bd U).1 (near_sum S.s01 p01) (r_bd U).2.1 (near_sum S.s12 p12) (r_bd U.next).2.1 (near_sum S.s10 p10) (r_bd U).2.2 (near_sum S.s11 p11) (r_bd U.next).1 t02 t12 t22
  refine ⟨e0, e1, e2, e3, ed, part_of hw (by rw [quat_axial0]; exact A0.of_eq (by grind)) m0, part_of hw (by rw [quat_axial1]; exact A1.of_eq (by grind)) m1, part_of hw (by rw [quat_axial2]; exact A2.of_eq (by grind)) m2⟩
end Go.Proofs.Ytkeijfbpkdelpaa
