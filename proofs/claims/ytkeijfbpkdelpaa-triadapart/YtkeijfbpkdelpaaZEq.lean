/-
  Package triad's steps and the reference's are the same, for the seat Ytkeijfbpkdelpaa. No Go text in sight.
-/
import Derived.Test.YtkeijfbpkdelpaaZSpec
import Derived.Test.YtkeijfbpkdelpaaQEqv
import Derived.Test.YtkeijfbpkdelpaaQNear
namespace Go.Proofs.Ytkeijfbpkdelpaa
open Go.RowKit

theorem norm_nearZ {t0 t1 t2 K : Int} (h0 : Ab t0 K) (h1 : Ab t1 K) (h2 : Ab t2 K) (hK : K ≤ 1152921504606846976) :
    ∃ N, vNormS false (t0, t1, t2) = (N, false) ∧ 0 ≤ N ∧ N * N ≤ t0 * t0 + t1 * t1 + t2 * t2 ∧ t0 * t0 + t1 * t1 + t2 * t2 < (N + 1) * (N + 1) := by
  have q0 := (h0.le hK).mul (h0.le hK)
  have q1 := (h1.le hK).mul (h1.le hK)
  have q2 := (h2.le hK).mul (h2.le hK)
  have := q0.hi; have := q1.hi; have := q2.hi
  have s0 := sq_nonneg t0
  have s1 := sq_nonneg t1
  have s2 := sq_nonneg t2
  have s := isq_spec (t0 * t0 + t1 * t1 + t2 * t2) (by omega) (by omega)
  refine ⟨isq (t0 * t0 + t1 * t1 + t2 * t2), normS_make (h0.numB (by omega)) (h1.numB (by omega)) (h2.numB (by omega)) s.1 ?_ s.2.1 s.2.2, s.1, s.2.1, s.2.2⟩
  by_cases k : isq (t0 * t0 + t1 * t1 + t2 * t2) ≤ 4611686018427387904
  · exact k
  · have := sq_mono (by omega : (0 : Int) ≤ 4611686018427387905) (by omega : 4611686018427387905 ≤ isq (t0 * t0 + t1 * t1 + t2 * t2))
    omega
theorem max4_ways (a b c d : Int) : a ≤ max4 a b c d ∧ b ≤ max4 a b c d ∧ c ≤ max4 a b c d ∧ d ≤ max4 a b c d ∧ (max4 a b c d = a ∨ max4 a b c d = b ∨ max4 a b c d = c ∨ max4 a b c d = d) := by
  unfold max4
  by_cases h1 : b > a
  · rw [if_pos h1]
    by_cases h2 : c > b
    · rw [if_pos h2]
      by_cases h3 : d > c
      · rw [if_pos h3]; omega
      · rw [if_neg h3]; omega
    · rw [if_neg h2]
      by_cases h3 : d > b
      · rw [if_pos h3]; omega
      · rw [if_neg h3]; omega
  · rw [if_neg h1]
    by_cases h2 : c > a
    · rw [if_pos h2]
      by_cases h3 : d > c
      · rw [if_pos h3]; omega
      · rw [if_neg h3]; omega
    · rw [if_neg h2]
      by_cases h3 : d > a
      · rw [if_pos h3]; omega
      · rw [if_neg h3]; omega
theorem uParts_bad (bad : Bool) (p q : V3) (h : (uPartsS bad p q).2 = true) : (uPartsS bad p q).1 = (0, 0) := by
  unfold uPartsS at h ⊢
  dsimp only at h ⊢
  split
  · rfl
  · rename_i c
    rw [if_neg c] at h
    exact absurd h c
theorem zApart_eq : zApartS = dApartS := by
  funext bad p q
  have hb := uParts_bad bad p q
  rw [uParts_eq] at hb
  unfold zApartS dApartS
  rw [uParts_eq]
  generalize vPartsS bad p q = r at hb ⊢
  obtain ⟨⟨s, t⟩, b⟩ := r
  cases b
  · rfl
  · have e : (s, t) = ((0, 0) : Int × Int) := hb rfl
    simp only [Prod.mk.injEq] at e
    obtain ⟨rfl, rfl⟩ := e
    rfl
theorem zframe_eq : zframeS = daxesS := by
  funext bad p
  unfold zframeS daxesS
  rw [uUnit_eq, uCross_eq]
/-- Two directions that are apart: their units, what these make when crossed, and how long that is. -/
structure Ap (p q : V3) (a0 a1 a2 b0 b1 b2 c0 c1 c2 n : Int) : Prop where
  ua : vUnitS false p = ((a0, a1, a2), false)
  ub : vUnitS false q = ((b0, b1, b2), false)
  cross : vCrossS false (a0, a1, a2) (b0, b1, b2) = ((c0, c1, c2), false)
  norm : vNormS false (c0, c1, c2) = (n, false)
  far : 190928190487 ≤ n
  a0' : Ab a0 1099511627776
  a1' : Ab a1 1099511627776
  a2' : Ab a2 1099511627776
theorem apart_cases (bad : Bool) (p q : V3) : (dApartS bad p q).1 = false ∨ (bad = false ∧ dApartS bad p q = (true, false) ∧ ∃ a0 a1 a2 b0 b1 b2 c0 c1 c2 n, Ap p q a0 a1 a2 b0 b1 b2 c0 c1 c2 n) := by
  have zero : ∀ x y : V3, (vNormS (vCrossS true x y).2 (vCrossS true x y).1).1 = 0 := fun x y => by rw [vCross_true, vNorm_true]
  rcases vUnit_cases bad p with ⟨_, h⟩ | ⟨_, a0, a1, a2, rfl, _, _, _, _, _, _, h, A0, A1, A2⟩
  · left
    unfold dApartS vPartsS
    simp only [h, vUnit_true, zero]
    decide
  · rcases vUnit_cases false q with ⟨_, k⟩ | ⟨_, b0, b1, b2, _, _, _, _, _, _, _, k, B0, B1, B2⟩
    · left
      unfold dApartS vPartsS
      simp only [h, k, zero]
      decide
    · have a0' : Ab a0 1099511627776 := ⟨A0.lo, A0.hi⟩
      have a1' : Ab a1 1099511627776 := ⟨A1.lo, A1.hi⟩
      have a2' : Ab a2 1099511627776 := ⟨A2.lo, A2.hi⟩
      obtain ⟨c0, c1, c2, ec, k0, k1, k2, _, _, _⟩ := cross_near (B := 1099511627777) a0' a1' a2' (show Ab b0 1099511627776 from ⟨B0.lo, B0.hi⟩) (show Ab b1 1099511627776 from ⟨B1.lo, B1.hi⟩) (show Ab b2 1099511627776 from ⟨B2.lo, B2.hi⟩) (by decide) (by decide) (by decide) (by decide)
      obtain ⟨n, en, n0, n1, n2⟩ := norm_nearZ k0 k1 k2 (by decide)
      obtain ⟨d, ed⟩ : ∃ d, vDotS false (a0, a1, a2) (b0, b1, b2) = (d, false) := by
        have h := dot_one (a0, a1, a2) (b0, b1, b2) ⟨by have := A0.lo; show _ ≤ a0; omega, by have := A0.hi; show a0 ≤ _; omega⟩ ⟨by have := A1.lo; show _ ≤ a1; omega, by have := A1.hi; show a1 ≤ _; omega⟩ ⟨by have := A2.lo; show _ ≤ a2; omega, by have := A2.hi; show a2 ≤ _; omega⟩ ⟨by have := B0.lo; show _ ≤ b0; omega, by have := B0.hi; show b0 ≤ _; omega⟩ ⟨by have := B1.lo; show _ ≤ b1; omega, by have := B1.hi; show b1 ≤ _; omega⟩ ⟨by have := B2.lo; show _ ≤ b2; omega, by have := B2.hi; show b2 ≤ _; omega⟩
        obtain ⟨d, ed⟩ := h
        exact ⟨d, ed.1⟩
      by_cases far : 190928190487 ≤ n
      · right
        refine ⟨rfl, ?_, a0, a1, a2, b0, b1, b2, c0, c1, c2, n, h, k, ec, en, far, a0', a1', a2'⟩
        unfold dApartS vPartsS
        simp only [h, k, ec, en, ed]
        rw [decide_eq_true (show n ≥ 190928190487 from far)]
      · left
        unfold dApartS vPartsS
        simp only [h, k, ec, en]
        exact decide_eq_false far
/-- The axes of two directions that are apart. -/
theorem axes_good {p0 p1 p2 p3 p4 p5 a0 a1 a2 b0 b1 b2 c0 c1 c2 n : Int} (A : Ap (p0, p1, p2) (p3, p4, p5) a0 a1 a2 b0 b1 b2 c0 c1 c2 n) :
    ∃ v0 v1 v2 w0 w1 w2, daxesS false (p0, p1, p2, p3, p4, p5) = ((a0, a1, a2, v0, v1, v2, w0, w1, w2), false) ∧ Ab v0 1099511627776 ∧ Ab v1 1099511627776 ∧ Ab v2 1099511627776 ∧ Ab w0 2199023255554 ∧ Ab w1 2199023255554 ∧ Ab w2 2199023255554 := by
  rcases vUnit_cases false (c0, c1, c2) with ⟨c, _⟩ | ⟨m, v0, v1, v2, _, _, _, _, _, _, _, k, V0, V1, V2⟩
  · rw [A.norm] at c; have c' : n < 1048576 := c; have := A.far; omega
  have v0' : Ab v0 1099511627776 := ⟨V0.lo, V0.hi⟩
  have v1' : Ab v1 1099511627776 := ⟨V1.lo, V1.hi⟩
  have v2' : Ab v2 1099511627776 := ⟨V2.lo, V2.hi⟩
  obtain ⟨w0, w1, w2, ec, k0, k1, k2, _, _, _⟩ := cross_near (B := 1099511627777) A.a0' A.a1' A.a2' v0' v1' v2' (by decide) (by decide) (by decide) (by decide)
  refine ⟨v0, v1, v2, w0, w1, w2, ?_, v0', v1', v2', k0.le (by decide), k1.le (by decide), k2.le (by decide)⟩
  unfold daxesS
  simp only [A.ua, A.ub, A.cross, k, ec]
theorem pl_good {a b c d e f : Int} (ha : Ab a 1099511627776) (hb : Ab b 1099511627776) (hc : Ab c 1099511627776) (hd : Ab d 1099511627776) (he : Ab e 2199023255554) (hf : Ab f 2199023255554) :
    ∃ m, plS false a b c d e f = (m, false) ∧ zlS false a b c d e f = (m, false) ∧ Ab m 8796093022208 := by
  obtain ⟨x, e1, n1⟩ := mul_near ha hb (by decide) (by decide)
  obtain ⟨y, e2, n2⟩ := mul_near hc hd (by decide) (by decide)
  obtain ⟨z, e3, n3⟩ := mul_near he hf (by decide) (by decide)
  have bx : Ab x 1099511627777 := prod_bd ha hb n1 (by decide)
  have bY : Ab y 1099511627777 := prod_bd hc hd n2 (by decide)
  have bz : Ab z 4398046511120 := prod_bd he hf n3 (by decide)
  have s1 := add_near bx bY (by decide) (by decide) (by decide)
  have s2 := add_near (bx.add bY) bz (by decide) (by decide) (by decide)
  refine ⟨x + y + z, ?_, ?_, ((bx.add bY).add bz).le (by decide)⟩
  · unfold plS; simp only [e1, e2, e3, s1, s2]
  · unfold zlS; simp only [e1, e2, e3, s1, s2]
/-- Of a matrix whose places are up to 8, both make the same. -/
theorem xFrom_eq {m00 m01 m02 m10 m11 m12 m20 m21 m22 : Int} (h00 : Ab m00 8796093022208) (h01 : Ab m01 8796093022208) (h02 : Ab m02 8796093022208) (h10 : Ab m10 8796093022208) (h11 : Ab m11 8796093022208) (h12 : Ab m12 8796093022208) (h20 : Ab m20 8796093022208) (h21 : Ab m21 8796093022208) (h22 : Ab m22 8796093022208) :
    xFromMatrixS false (m00, m01, m02, m10, m11, m12, m20, m21, m22) = qFromMatrixS false (m00, m01, m02, m10, m11, m12, m20, m21, m22) := by
  have O : Ab 1099511627776 1099511627776 := Ab.one40
  have t1 := add_near h00 h11 (by decide) (by decide) (by decide)
  have t2 := add_near (h00.add h11) h22 (by decide) (by decide) (by decide)
  have z00 := addS_zero (h00.numB (by decide))
  have z01 := addS_zero (h01.numB (by decide))
  have z02 := addS_zero (h02.numB (by decide))
  have z10 := addS_zero (h10.numB (by decide))
  have z11 := addS_zero (h11.numB (by decide))
  have z12 := addS_zero (h12.numB (by decide))
  have z20 := addS_zero (h20.numB (by decide))
  have z21 := addS_zero (h21.numB (by decide))
  have z22 := addS_zero (h22.numB (by decide))
  have s1 := sub_near h12 h21 (by decide) (by decide) (by decide)
  have s2 := sub_near h20 h02 (by decide) (by decide) (by decide)
  have s3 := sub_near h01 h10 (by decide) (by decide) (by decide)
  have s4 := add_near O ((h00.add h11).add h22) (by decide) (by decide) (by decide)
  have x1 := add_near O h00 (by decide) (by decide) (by decide)
  have x2 := sub_near (O.add h00) h11 (by decide) (by decide) (by decide)
  have x3 := sub_near ((O.add h00).sub h11) h22 (by decide) (by decide) (by decide)
  have y1 := add_near O h11 (by decide) (by decide) (by decide)
  have y2 := sub_near (O.add h11) h22 (by decide) (by decide) (by decide)
  have y3 := sub_near ((O.add h11).sub h22) h00 (by decide) (by decide) (by decide)
  have w1 := add_near O h22 (by decide) (by decide) (by decide)
  have w2 := sub_near (O.add h22) h00 (by decide) (by decide) (by decide)
  have w3 := sub_near ((O.add h22).sub h00) h11 (by decide) (by decide) (by decide)
  have a01 := add_near h01 h10 (by decide) (by decide) (by decide)
  have a10 := add_near h10 h01 (by decide) (by decide) (by decide)
  have a02 := add_near h02 h20 (by decide) (by decide) (by decide)
  have a20 := add_near h20 h02 (by decide) (by decide) (by decide)
  have a12 := add_near h12 h21 (by decide) (by decide) (by decide)
  have a21 := add_near h21 h12 (by decide) (by decide) (by decide)
  have c10 : m10 + m01 = m01 + m10 := Int.add_comm _ _
  have c20 : m02 + m20 = m20 + m02 := Int.add_comm _ _
  have c21 : m21 + m12 = m12 + m21 := Int.add_comm _ _
  have mx := max4_ways (m00 + m11 + m22) m00 m11 m22
  unfold xFromMatrixS qFromMatrixS qbyWS qbyXS qbyYS qbyZS
  rw [xUnit_eq]
  simp only [t1, t2, z00, z01, z02, z10, z11, z12, z20, z21, z22, s1, s2, s3, s4, x1, x2, x3, y1, y2, y3, w1, w2, w3, a01, a10, a02, a20, a12, a21, c10, c20, c21]
  rw [if_neg (by decide)]
  clear t1 t2 z00 z01 z02 z10 z11 z12 z20 z21 z22 s1 s2 s3 s4 x1 x2 x3 y1 y2 y3 w1 w2 w3 a01 a10 a02 a20 a12 a21 c10 c20 c21 O h01 h02 h10 h12 h20 h21
  generalize max4 (m00 + m11 + m22) m00 m11 m22 = mm at mx ⊢
  by_cases d1 : m00 > m00 + m11 + m22
  · rw [if_pos d1, if_neg (show ¬ mm = m00 + m11 + m22 by omega)]
    by_cases d2 : m11 > m00
    · rw [if_pos d2, if_neg (show ¬ mm = m00 by omega)]
      by_cases d3 : m22 > m11
      · rw [if_pos d3, if_neg (show ¬ mm = m11 by omega)]
      · rw [if_neg d3, if_pos (show mm = m11 by omega)]
    · rw [if_neg d2]
      by_cases d3 : m22 > m00
      · rw [if_pos d3, if_neg (show ¬ mm = m00 by omega), if_neg (show ¬ mm = m11 by omega)]
      · rw [if_neg d3, if_pos (show mm = m00 by omega)]
  · rw [if_neg d1]
    by_cases d2 : m11 > m00 + m11 + m22
    · rw [if_pos d2, if_neg (show ¬ mm = m00 + m11 + m22 by omega), if_neg (show ¬ mm = m00 by omega)]
      by_cases d3 : m22 > m11
      · rw [if_pos d3, if_neg (show ¬ mm = m11 by omega)]
      · rw [if_neg d3, if_pos (show mm = m11 by omega)]
    · rw [if_neg d2]
      by_cases d3 : m22 > m00 + m11 + m22
      · rw [if_pos d3, if_neg (show ¬ mm = m00 + m11 + m22 by omega), if_neg (show ¬ mm = m00 by omega), if_neg (show ¬ mm = m11 by omega)]
      · rw [if_neg d3, if_pos (show mm = m00 + m11 + m22 by omega)]
theorem zAttitude_eq : zAttitudeS = dAttitudeS := by
  funext bad p q
  obtain ⟨p0, p1, p2, p3, p4, p5⟩ := p
  obtain ⟨q0, q1, q2, q3, q4, q5⟩ := q
  unfold zAttitudeS dAttitudeS
  rw [zApart_eq, zframe_eq]
  dsimp only
  rcases apart_cases bad (p0, p1, p2) (p3, p4, p5) with h | ⟨rfl, h, a0, a1, a2, b0, b1, b2, c0, c1, c2, n, A⟩
  · rw [h, if_neg (by decide), if_neg (by decide)]
  · rw [h]
    dsimp only
    rw [if_pos rfl, if_pos rfl]
    rcases apart_cases false (q0, q1, q2) (q3, q4, q5) with k | ⟨_, k, e0, e1, e2, f0, f1, f2, g0, g1, g2, o, B⟩
    · rw [k, if_neg (by decide), if_neg (by decide)]
    · rw [k]
      dsimp only
      rw [if_pos rfl, if_pos rfl]
      obtain ⟨v0, v1, v2, w0, w1, w2, E, V0, V1, V2, W0, W1, W2⟩ := axes_good A
      obtain ⟨x0, x1, x2, y0, y1, y2, F, X0, X1, X2, Y0, Y1, Y2⟩ := axes_good B
      rw [E]
      dsimp only
      rw [F]
      dsimp only
      obtain ⟨m00, r00, s00, h00⟩ := pl_good B.a0' A.a0' X0 V0 Y0 W0
      obtain ⟨m01, r01, s01, h01⟩ := pl_good B.a0' A.a1' X0 V1 Y0 W1
      obtain ⟨m02, r02, s02, h02⟩ := pl_good B.a0' A.a2' X0 V2 Y0 W2
      obtain ⟨m10, r10, s10, h10⟩ := pl_good B.a1' A.a0' X1 V0 Y1 W0
      obtain ⟨m11, r11, s11, h11⟩ := pl_good B.a1' A.a1' X1 V1 Y1 W1
      obtain ⟨m12, r12, s12, h12⟩ := pl_good B.a1' A.a2' X1 V2 Y1 W2
      obtain ⟨m20, r20, s20, h20⟩ := pl_good B.a2' A.a0' X2 V0 Y2 W0
      obtain ⟨m21, r21, s21, h21⟩ := pl_good B.a2' A.a1' X2 V1 Y2 W1
      obtain ⟨m22, r22, s22, h22⟩ := pl_good B.a2' A.a2' X2 V2 Y2 W2
      unfold dbetweenS
      simp only [r00, r01, r02, r10, r11, r12, r20, r21, r22, s00, s01, s02, s10, s11, s12, s20, s21, s22]
      rw [xFrom_eq h00 h01 h02 h10 h11 h12 h20 h21 h22]
end Go.Proofs.Ytkeijfbpkdelpaa
