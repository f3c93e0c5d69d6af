/-
  The matrix of two frames is nearly a turn; the attitude of it takes the one frame's first direction to the other's, for the seat Ytkeijfbpkdelpaa. No Go text in sight.
-/
import Derived.Test.YtkeijfbpkdelpaaTriF
namespace Go.Proofs.Ytkeijfbpkdelpaa
open Go.RowKit

theorem Pl.swap {m x y z u v w : Int} (h : Pl m x y z u v w) : Pl m u v w x y z := by
  have k : Ab (2 * (1099511627776 * m - (x * u + y * v + z * w))) 3298534883328 := h
  rw [Int.mul_comm x u, Int.mul_comm y v, Int.mul_comm z w] at k
  exact k
theorem rot_of {x0 x1 x2 y0 y1 y2 z0 z1 z2 u0 u1 u2 v0 v1 v2 w0 w1 w2 m00 m01 m02 m10 m11 m12 m20 m21 m22 : Int} (F : Fr x0 x1 x2 y0 y1 y2 z0 z1 z2) (G : Fr u0 u1 u2 v0 v1 v2 w0 w1 w2) (p00 : Pl m00 x0 y0 z0 u0 v0 w0) (p01 : Pl m01 x0 y0 z0 u1 v1 w1) (p02 : Pl m02 x0 y0 z0 u2 v2 w2) (p10 : Pl m10 x1 y1 z1 u0 v0 w0) (p11 : Pl m11 x1 y1 z1 u1 v1 w1) (p12 : Pl m12 x1 y1 z1 u2 v2 w2) (p20 : Pl m20 x2 y2 z2 u0 v0 w0) (p21 : Pl m21 x2 y2 z2 u1 v1 w1) (p22 : Pl m22 x2 y2 z2 u2 v2 w2) : Rot m00 m01 m02 m10 m11 m12 m20 m21 m22 :=
  ⟨col_near (d := 1208925819614629174706176) F G.u0' G.v0' G.w0' G.u0' G.v0' G.w0' (fr_row G) p00 p10 p20 p00 p10 p20,
    (by have h := col_near (d := 0) F G.u0' G.v0' G.w0' G.u1' G.v1' G.w1' (by rw [Int.sub_zero]; exact fr_rows G) p00 p10 p20 p01 p11 p21; rw [Int.sub_zero] at h; exact h),
    (by have h := col_near (d := 0) F G.u0' G.v0' G.w0' G.u2' G.v2' G.w2' (by rw [Int.sub_zero, show u0 * u2 + v0 * v2 + w0 * w2 = u2 * u0 + v2 * v0 + w2 * w0 by grind]; exact fr_rows G.next.next) p00 p10 p20 p02 p12 p22; rw [Int.sub_zero] at h; exact h),
    col_near (d := 1208925819614629174706176) F G.u1' G.v1' G.w1' G.u1' G.v1' G.w1' (fr_row G.next) p01 p11 p21 p01 p11 p21,
    (by have h := col_near (d := 0) F G.u1' G.v1' G.w1' G.u2' G.v2' G.w2' (by rw [Int.sub_zero]; exact fr_rows G.next) p01 p11 p21 p02 p12 p22; rw [Int.sub_zero] at h; exact h),
    col_near (d := 1208925819614629174706176) F G.u2' G.v2' G.w2' G.u2' G.v2' G.w2' (fr_row G.next.next) p02 p12 p22 p02 p12 p22,
    col_near (d := 1208925819614629174706176) G F.u0' F.v0' F.w0' F.u0' F.v0' F.w0' (fr_row F) p00.swap p01.swap p02.swap p00.swap p01.swap p02.swap,
    (by have h := col_near (d := 0) G F.u0' F.v0' F.w0' F.u1' F.v1' F.w1' (by rw [Int.sub_zero]; exact fr_rows F) p00.swap p01.swap p02.swap p10.swap p11.swap p12.swap; rw [Int.sub_zero] at h; exact h),
    (by have h := col_near (d := 0) G F.u0' F.v0' F.w0' F.u2' F.v2' F.w2' (by rw [Int.sub_zero, show x0 * x2 + y0 * y2 + z0 * z2 = x2 * x0 + y2 * y0 + z2 * z0 by grind]; exact fr_rows F.next.next) p00.swap p01.swap p02.swap p20.swap p21.swap p22.swap; rw [Int.sub_zero] at h; exact h),
    col_near (d := 1208925819614629174706176) G F.u1' F.v1' F.w1' F.u1' F.v1' F.w1' (fr_row F.next) p10.swap p11.swap p12.swap p10.swap p11.swap p12.swap,
    (by have h := col_near (d := 0) G F.u1' F.v1' F.w1' F.u2' F.v2' F.w2' (by rw [Int.sub_zero]; exact fr_rows F.next) p10.swap p11.swap p12.swap p20.swap p21.swap p22.swap; rw [Int.sub_zero] at h; exact h),
    col_near (d := 1208925819614629174706176) G F.u2' F.v2' F.w2' F.u2' F.v2' F.w2' (fr_row F.next.next) p20.swap p21.swap p22.swap p20.swap p21.swap p22.swap,
    cof_near F G p00 p11 p12 p21 p22,
    cof_near F G.next p01 p12 p10 p22 p20,
    cof_near F G.next.next p02 p10 p11 p20 p21,
    cof_near F.next G p10 p21 p22 p01 p02,
    cof_near F.next G.next p11 p22 p20 p02 p00,
    cof_near F.next G.next.next p12 p20 p21 p00 p01,
    cof_near F.next.next G p20 p01 p02 p11 p12,
    cof_near F.next.next G.next p21 p02 p00 p12 p10,
    cof_near F.next.next G.next.next p22 p00 p01 p10 p11⟩
theorem first_part {q0 q1 q2 q3 x0 y0 z0 u0 u1 u2 v0 v1 v2 w0 w1 w2 m0 m1 m2 r : Int} (U : U4 q0 q1 q2 q3) (G : Fr u0 u1 u2 v0 v1 v2 w0 w1 w2) (hx : Ab x0 1099511627776) (hy : Ab y0 1099511627776) (hz : Ab z0 1099511627840)
    (p0 : Pl m0 x0 y0 z0 u0 v0 w0) (p1 : Pl m1 x0 y0 z0 u1 v1 w1) (p2 : Pl m2 x0 y0 z0 u2 v2 w2)
    (s0 : Ab (r00 q0 q1 q2 q3 - 1099511627776 * m0) 1209462790553600) (s1 : Ab (r01 q0 q1 q2 q3 - 1099511627776 * m1) 1209462790553600) (s2 : Ab (r10 q2 q0 q1 q3 - 1099511627776 * m2) 1209462790553600)
    (t : Ab (1208925819614629174706176 * r - tnc q0 q1 q2 q3 u0 u1 u2) (2417851639229258349412352 + 6597069766656 * 1099511627776)) : Ab (r - x0) 4096 := by
  have id : 2417851639229258349412352 * (r - x0) = 2 * (1208925819614629174706176 * r - tnc q0 q1 q2 q3 u0 u1 u2) + 2 * ((r00 q0 q1 q2 q3 - 1099511627776 * m0) * u0 + (r01 q0 q1 q2 q3 - 1099511627776 * m1) * u1 + (r10 q2 q0 q1 q3 - 1099511627776 * m2) * u2)
      - 2 * ((q0 * q0 + q1 * q1 + q2 * q2 + q3 * q3 - 1208925819614629174706176) * u0)
      + (2 * (1099511627776 * m0 - (x0 * u0 + y0 * v0 + z0 * w0)) * u0 + 2 * (1099511627776 * m1 - (x0 * u1 + y0 * v1 + z0 * w1)) * u1 + 2 * (1099511627776 * m2 - (x0 * u2 + y0 * v2 + z0 * w2)) * u2)
      + 2 * (x0 * (u0 * u0 + u1 * u1 + u2 * u2 - 1208925819614629174706176) + y0 * (u0 * v0 + u1 * v1 + u2 * v2) + z0 * (u0 * w0 + u1 * w1 + u2 * w2)) := by unfold tnc qfc r00 r01 r10; grind
  have b := (((((Ab.two.mul t).add (Ab.two.mul (((s0.mul G.u0').add (s1.mul G.u1')).add (s2.mul G.u2')))).sub (Ab.two.mul (U.len.mul G.u0'))).add (((p0.mul G.u0').add (p1.mul G.u1')).add (p2.mul G.u2'))).add (Ab.two.mul (((hx.mul G.uu).add (hy.mul G.uv)).add (hz.mul (fr_uw G)))))
  rw [← id] at b
  have := b.lo; have := b.hi
  constructor <;> omega
/-- The attitude of the matrix of two frames takes the one's first direction to the other's first one. -/
theorem first_math {x0 x1 x2 y0 y1 y2 z0 z1 z2 u0 u1 u2 v0 v1 v2 w0 w1 w2 m00 m01 m02 m10 m11 m12 m20 m21 m22 : Int} (F : Fr x0 x1 x2 y0 y1 y2 z0 z1 z2) (G : Fr u0 u1 u2 v0 v1 v2 w0 w1 w2) (p00 : Pl m00 x0 y0 z0 u0 v0 w0) (p01 : Pl m01 x0 y0 z0 u1 v1 w1) (p02 : Pl m02 x0 y0 z0 u2 v2 w2) (p10 : Pl m10 x1 y1 z1 u0 v0 w0) (p11 : Pl m11 x1 y1 z1 u1 v1 w1) (p12 : Pl m12 x1 y1 z1 u2 v2 w2) (p20 : Pl m20 x2 y2 z2 u0 v0 w0) (p21 : Pl m21 x2 y2 z2 u1 v1 w1) (p22 : Pl m22 x2 y2 z2 u2 v2 w2) :
    ∃ q0 q1 q2 q3 r0 r1 r2, qFromMatrixS false (m00, m01, m02, m10, m11, m12, m20, m21, m22) = ((q0, q1, q2, q3), false) ∧ U4 q0 q1 q2 q3 ∧ Same q0 q1 q2 q3 m00 m01 m02 m10 m11 m12 m20 m21 m22 ∧ qTurnS false (q0, q1, q2, q3) (u0, u1, u2) = ((r0, r1, r2), false) ∧ Ab (r0 - x0) 4096 ∧ Ab (r1 - x1) 4096 ∧ Ab (r2 - x2) 4096 := by
  obtain ⟨q0, q1, q2, q3, e, U, S⟩ := near_rot (rot_of F G p00 p01 p02 p10 p11 p12 p20 p21 p22)
  obtain ⟨r0, r1, r2, er, t0, t1, t2⟩ := turn_near U.a0 U.a1 U.a2 U.a3 (by decide) (G.u0'.le (by decide)) (G.u1'.le (by decide)) (G.u2'.le (by decide))
  exact ⟨q0, q1, q2, q3, r0, r1, r2, e, U, S, er, first_part U G F.u0' F.v0' F.w0' p00 p01 p02 S.s00 S.s01 S.s02 t0, first_part U.next G.next F.u1' F.v1' F.w1' p11 p12 p10 S.s11 S.s12 S.s10 t1, first_part U.next.next G.next.next F.u2' F.v2' F.w2' p22 p20 p21 S.s22 S.s20 S.s21 t2⟩
/-- The squares of the parts of a unit of what is at least as long as a sine of 10 degrees. -/
theorem unit_sum_w (a b c n u v t : Int) (hn : 190928190487 ≤ n) (h1 : n * n ≤ a * a + b * b + c * c) (h2 : a * a + b * b + c * c < (n + 1) * (n + 1)) (U : Uof u a n) (V : Uof v b n) (T : Uof t c n) : Ab (u * u + v * v + t * t - 1208925819614629174706176) 16492674416640 := by
  have sa := sq_nonneg a
  have sb := sq_nonneg b
  have sc := sq_nonneg c
  have ba := unit_sq_bd u a n U (abs_le_of_sq (by omega) (by omega))
  have bb := unit_sq_bd v b n V (abs_le_of_sq (by omega) (by omega))
  have bc := unit_sq_bd t c n T (abs_le_of_sq (by omega) (by omega))
  have e : n * n * (u * u + v * v + t * t) = n * n * (u * u) + n * n * (v * v) + n * n * (t * t) := by grind
  have n2 : (n + 1) * (n + 1) = n * n + 2 * n + 1 := by grind
  rw [n2] at h2
  generalize n * n * (u * u) = x at *
  generalize n * n * (v * v) = y at *
  generalize n * n * (t * t) = z at *
  generalize u * u + v * v + t * t = W at *
  generalize a * a = aa at *
  generalize b * b = bb' at *
  generalize c * c = cc at *
  have nn : 190928190487 * n ≤ n * n := Int.mul_le_mul_of_nonneg_right hn (by omega)
  constructor
  · by_cases k : 1208925819614629174706176 - 16492674416640 ≤ W
    · omega
    · have := Int.mul_le_mul_of_nonneg_left (by omega : W ≤ 1208925819614629174706176 - 16492674416640 - 1) (by omega : 0 ≤ n * n)
      generalize n * n = q at *
      omega
  · by_cases k : W ≤ 1208925819614629174706176 + 16492674416640
    · omega
    · have h3 := Int.mul_le_mul_of_nonneg_left (by omega : 1208925819614629174706176 + 16492674416640 + 1 ≤ W) (by omega : 0 ≤ n * n)
      generalize n * n = q at *
      omega
theorem upright_part {u0 u1 u2 b0 b1 b2 c0 c1 c2 v0 v1 v2 n : Int} (hn : 190928190487 ≤ n) (h0 : Ab u0 1099511627776) (h1 : Ab u1 1099511627776) (h2 : Ab u2 1099511627776) (V0 : Uof v0 c0 n) (V1 : Uof v1 c1 n) (V2 : Uof v2 c2 n)
    (e0 : Ab (c0 * 1099511627776 - (u1 * b2 - u2 * b1)) 1099511627776) (e1 : Ab (c1 * 1099511627776 - (u2 * b0 - u0 * b2)) 1099511627776) (e2 : Ab (c2 * 1099511627776 - (u0 * b1 - u1 * b0)) 1099511627776) : Ab (u0 * v0 + u1 * v1 + u2 * v2) 20890720927744 := by
  have id : 2 * (n * (u0 * v0 + u1 * v1 + u2 * v2)) = u0 * (2 * (v0 * n - c0 * 1099511627776)) + u1 * (2 * (v1 * n - c1 * 1099511627776)) + u2 * (2 * (v2 * n - c2 * 1099511627776)) + 2 * (u0 * (c0 * 1099511627776 - (u1 * b2 - u2 * b1)) + u1 * (c1 * 1099511627776 - (u2 * b0 - u0 * b2)) + u2 * (c2 * 1099511627776 - (u0 * b1 - u1 * b0))) := by grind
  have b := (((h0.mul (uof_ab V0)).add (h1.mul (uof_ab V1))).add (h2.mul (uof_ab V2))).add (Ab.two.mul (((h0.mul e0).add (h1.mul e1)).add (h2.mul e2)))
  rw [← id] at b
  generalize u0 * v0 + u1 * v1 + u2 * v2 = X at *
  have := b.lo; have := b.hi
  constructor
  · by_cases k : -20890720927744 ≤ X
    · exact k
    · have := Int.mul_le_mul_of_nonneg_left (by omega : X ≤ -20890720927745) (by omega : 0 ≤ n)
      omega
  · by_cases k : X ≤ 20890720927744
    · exact k
    · have := Int.mul_le_mul_of_nonneg_left (by omega : 20890720927745 ≤ X) (by omega : 0 ≤ n)
      omega
/-- The frame of two directions that are far enough from one another. -/
theorem frame_math {a b : V3} {na n u0 u1 u2 b0 b1 b2 c0 c1 c2 : Int} (ha : vNormS false a = (na, false)) (hna : 1099511627776 ≤ na) (hu : vUnitS false a = ((u0, u1, u2), false)) (hb : vUnitS false b = ((b0, b1, b2), false)) (hc : vCrossS false (u0, u1, u2) (b0, b1, b2) = ((c0, c1, c2), false)) (hn : vNormS false (c0, c1, c2) = (n, false)) (hn' : 190928190487 ≤ n) :
    ∃ v0 v1 v2 w0 w1 w2, vUnitS false (c0, c1, c2) = ((v0, v1, v2), false) ∧ vCrossS false (u0, u1, u2) (v0, v1, v2) = ((w0, w1, w2), false) ∧ Fr u0 u1 u2 v0 v1 v2 w0 w1 w2 := by
  rcases vUnit_cases false a with ⟨c, _⟩ | ⟨n1, s0, s1, s2, _, k1, k2, _, _, _, _, k3, S0, S1, S2⟩
  · rw [ha] at c; have c' : na < 1048576 := c; omega
  rw [ha] at k1
  obtain rfl : na = n1 := congrArg Prod.fst k1
  rw [hu] at k3
  simp only [Prod.mk.injEq] at k3
  obtain ⟨⟨rfl, rfl, rfl⟩, _⟩ := k3
  rcases vUnit_cases false b with ⟨_, c⟩ | ⟨n2, t0, t1, t2, _, _, _, _, _, _, _, k4, T0, T1, T2⟩
  · rw [hb] at c; exact absurd (congrArg Prod.snd c) (by simp)
  rw [hb] at k4
  simp only [Prod.mk.injEq] at k4
  obtain ⟨⟨rfl, rfl, rfl⟩, _⟩ := k4
  have a0 : Ab u0 1099511627776 := ⟨S0.lo, S0.hi⟩
  have a1 : Ab u1 1099511627776 := ⟨S1.lo, S1.hi⟩
  have a2 : Ab u2 1099511627776 := ⟨S2.lo, S2.hi⟩
  obtain ⟨d0, d1, d2, ed, _, _, _, e0, e1, e2⟩ := cross_near (B := 1099511627777) a0 a1 a2 (⟨T0.lo, T0.hi⟩ : Ab b0 1099511627776) (⟨T1.lo, T1.hi⟩ : Ab b1 1099511627776) (⟨T2.lo, T2.hi⟩ : Ab b2 1099511627776) (by decide) (by decide) (by decide) (by decide)
  rw [hc] at ed
  simp only [Prod.mk.injEq] at ed
  obtain ⟨⟨rfl, rfl, rfl⟩, _⟩ := ed
  rcases vUnit_cases false (c0, c1, c2) with ⟨c, _⟩ | ⟨n3, v0, v1, v2, _, k5, k6, _, _, _, _, k7, V0, V1, V2⟩
  · rw [hn] at c; have c' : n < 1048576 := c; omega
  rw [hn] at k5
  obtain rfl : n = n3 := congrArg Prod.fst k5
  dsimp only at V0 V1 V2
  have g := normS_good k2
  have g' := normS_good k6
  have r0 : Ab v0 1099511627776 := ⟨V0.lo, V0.hi⟩
  have r1 : Ab v1 1099511627776 := ⟨V1.lo, V1.hi⟩
  have r2 : Ab v2 1099511627776 := ⟨V2.lo, V2.hi⟩
  obtain ⟨w0, w1, w2, ew, _, _, _, o0, o1, o2⟩ := cross_near (B := 1099511627777) a0 a1 a2 r0 r1 r2 (by decide) (by decide) (by decide) (by decide)
  have uu : Ab (u0 * u0 + u1 * u1 + u2 * u2 - 1208925819614629174706176) 6597069766656 := by
    have s := unit_sum a.1 a.2.1 a.2.2 na u0 u1 u2 (by omega) g.2.2.2.2.2.2.1 g.2.2.2.2.2.2.2 S0 S1 S2
    have s2 := s.2.1 hna
    constructor <;> omega
  have vv := unit_sum_w c0 c1 c2 n v0 v1 v2 hn' g'.2.2.2.2.2.2.1 g'.2.2.2.2.2.2.2 V0 V1 V2
  have uv := upright_part hn' a0 a1 a2 V0 V1 V2 e0 e1 e2
  have o0' : Ab (1099511627776 * w0 - (u1 * v2 - u2 * v1)) 1099511627776 := by rw [Int.mul_comm 1099511627776 w0]; exact o0
  have o1' : Ab (1099511627776 * w1 - (u2 * v0 - u0 * v2)) 1099511627776 := by rw [Int.mul_comm 1099511627776 w1]; exact o1
  have o2' : Ab (1099511627776 * w2 - (u0 * v1 - u1 * v0)) 1099511627776 := by rw [Int.mul_comm 1099511627776 w2]; exact o2
  have ww := ww_near a0 a1 a2 r0 r1 r2 uu vv uv o0' o1' o2'
  have q0 := sq_nonneg w0
  have q1 := sq_nonneg w1
  have q2 := sq_nonneg w2
  have := ww.hi
  exact ⟨v0, v1, v2, w0, w1, w2, k7, ew, ⟨a0, a1, a2, r0, r1, r2, root_le (by decide) (by omega), root_le (by decide) (by omega), root_le (by decide) (by omega), uu, vv, uv, o0', o1', o2'⟩⟩
end Go.Proofs.Ytkeijfbpkdelpaa
