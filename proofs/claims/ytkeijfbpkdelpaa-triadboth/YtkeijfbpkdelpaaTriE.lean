/-
  Frames of two directions, with their lengths; what is turned: for the seat Ytkeijfbpkdelpaa. No Go text in sight.
-/
import Derived.Test.YtkeijfbpkdelpaaTriD
namespace Go.Proofs.Ytkeijfbpkdelpaa
open Go.RowKit

/-- A place of the matrix of two frames, worked out. -/
theorem place_math {X V W a v w : Int} (hX : Ab X 1099511627776) (hV : Ab V 1099511627776) (hW : Ab W 1099511627840) (ha : Ab a 1099511627776) (hv : Ab v 1099511627776) (hw : Ab w 1099511627840) :
    ∃ p1 p2 p3, mulS false X a = (p1, false) ∧ mulS false V v = (p2, false) ∧ mulS false W w = (p3, false) ∧ addS false p1 p2 = (p1 + p2, false) ∧ addS false (p1 + p2) p3 = (p1 + p2 + p3, false) ∧ Pl (p1 + p2 + p3) X V W a v w := by
  obtain ⟨p1, e1, n1⟩ := mul_near hX ha (by decide) (by decide)
  obtain ⟨p2, e2, n2⟩ := mul_near hV hv (by decide) (by decide)
  obtain ⟨p3, e3, n3⟩ := mul_near hW hw (by decide) (by decide)
  have b1 := prod_bd hX ha n1 (B := 1099511628000) (by decide)
  have b2 := prod_bd hV hv n2 (B := 1099511628000) (by decide)
  have b3 := prod_bd hW hw n3 (B := 1099511628000) (by decide)
  refine ⟨p1, p2, p3, e1, e2, e3, add_near b1 b2 (by decide) (by decide) (by decide), add_near (b1.add b2) b3 (by decide) (by decide) (by decide), ?_⟩
  have := n1.lo; have := n1.hi; have := n2.lo; have := n2.hi; have := n3.lo; have := n3.hi
  exact ⟨by omega, by omega⟩
/-- The squares of the parts of a unit of what is about 1 long, or longer. -/
theorem unit_sum_h (a b c n u v t : Int) (hn : 1000000000000 ≤ n) (h1 : n * n ≤ a * a + b * b + c * c) (h2 : a * a + b * b + c * c < (n + 1) * (n + 1)) (U : Uof u a n) (V : Uof v b n) (T : Uof t c n) : Ab (u * u + v * v + t * t - 1208925819614629174706176) 6597069766656 := by
  have sa := sq_nonneg a
  have sb := sq_nonneg b
  have sc := sq_nonneg c
  have ba := unit_sq_bd u a n U (abs_le_of_sq (by omega) (by omega))
  have bb := unit_sq_bd v b n V (abs_le_of_sq (by omega) (by omega))
  have bc := unit_sq_bd t c n T (abs_le_of_sq (by omega) (by omega))
  have e : n * n * (u * u + v * v + t * t) = n * n * (u * u) + n * n * (v * v) + n * n * (t * t) := by grind
  have n2 : (n + 1) * (n + 1) = n * n + 2 * n + 1 := by grind
  rw [n2] at h2
  generalize n * n * (u * u) = x at *
  generalize n * n * (v * v) = y at *
  generalize n * n * (t * t) = z at *
  generalize u * u + v * v + t * t = W at *
  generalize a * a = aa at *
  generalize b * b = bb' at *
  generalize c * c = cc at *
  have nn : 1000000000000 * n ≤ n * n := Int.mul_le_mul_of_nonneg_right hn (by omega)
  constructor
  · by_cases k : 1208925819614629174706176 - 6597069766656 ≤ W
    · omega
    · have := Int.mul_le_mul_of_nonneg_left (by omega : W ≤ 1208925819614629174706176 - 6597069766656 - 1) (by omega : 0 ≤ n * n)
      generalize n * n = q at *
      omega
  · by_cases k : W ≤ 1208925819614629174706176 + 6597069766656
    · omega
    · have h3 := Int.mul_le_mul_of_nonneg_left (by omega : 1208925819614629174706176 + 6597069766656 + 1 ≤ W) (by omega : 0 ≤ n * n)
      generalize n * n = q at *
      omega
/-- A direction of about 1 or longer, and its unit. -/
structure Un (p0 p1 p2 n a0 a1 a2 : Int) : Prop where
  unit : vUnitS false (p0, p1, p2) = ((a0, a1, a2), false)
  norm : vNormS false (p0, p1, p2) = (n, false)
  n1 : n * n ≤ p0 * p0 + p1 * p1 + p2 * p2
  n2 : p0 * p0 + p1 * p1 + p2 * p2 < (n + 1) * (n + 1)
  n0 : 1000000000000 ≤ n
  u0 : Uof a0 p0 n
  u1 : Uof a1 p1 n
  u2 : Uof a2 p2 n
  aa : Ab (a0 * a0 + a1 * a1 + a2 * a2 - 1208925819614629174706176) 6597069766656
theorem Un.b0 {p0 p1 p2 n a0 a1 a2 : Int} (h : Un p0 p1 p2 n a0 a1 a2) : Ab a0 1099511627776 := ⟨h.u0.lo, h.u0.hi⟩
theorem Un.b1 {p0 p1 p2 n a0 a1 a2 : Int} (h : Un p0 p1 p2 n a0 a1 a2) : Ab a1 1099511627776 := ⟨h.u1.lo, h.u1.hi⟩
theorem Un.b2 {p0 p1 p2 n a0 a1 a2 : Int} (h : Un p0 p1 p2 n a0 a1 a2) : Ab a2 1099511627776 := ⟨h.u2.lo, h.u2.hi⟩
theorem un_of {p0 p1 p2 n : Int} (h : vNormS false (p0, p1, p2) = (n, false)) (hn : 1000000000000 ≤ n) : ∃ a0 a1 a2, Un p0 p1 p2 n a0 a1 a2 := by
  rcases vUnit_cases false (p0, p1, p2) with ⟨c, _⟩ | ⟨m, a0, a1, a2, _, k1, k2, _, _, _, _, k3, S0, S1, S2⟩
  · rw [h] at c; have c' : n < 1048576 := c; omega
  rw [h] at k1
  obtain rfl : n = m := congrArg Prod.fst k1
  have g := normS_good k2
  exact ⟨a0, a1, a2, ⟨k3, h, g.2.2.2.2.2.2.1, g.2.2.2.2.2.2.2, hn, S0, S1, S2, unit_sum_h p0 p1 p2 n a0 a1 a2 hn g.2.2.2.2.2.2.1 g.2.2.2.2.2.2.2 S0 S1 S2⟩⟩
/-- Two units, crossed. -/
structure Cr (a0 a1 a2 b0 b1 b2 c0 c1 c2 n : Int) : Prop where
  cross : vCrossS false (a0, a1, a2) (b0, b1, b2) = ((c0, c1, c2), false)
  norm : vNormS false (c0, c1, c2) = (n, false)
  n0 : 0 ≤ n
  n1 : n * n ≤ c0 * c0 + c1 * c1 + c2 * c2
  n2 : c0 * c0 + c1 * c1 + c2 * c2 < (n + 1) * (n + 1)
  e0 : Ab (c0 * 1099511627776 - (a1 * b2 - a2 * b1)) 1099511627776
  e1 : Ab (c1 * 1099511627776 - (a2 * b0 - a0 * b2)) 1099511627776
  e2 : Ab (c2 * 1099511627776 - (a0 * b1 - a1 * b0)) 1099511627776
  up : n ≤ 1099511627808
theorem cr_of {a0 a1 a2 b0 b1 b2 : Int} (ha0 : Ab a0 1099511627776) (ha1 : Ab a1 1099511627776) (ha2 : Ab a2 1099511627776) (hb0 : Ab b0 1099511627776) (hb1 : Ab b1 1099511627776) (hb2 : Ab b2 1099511627776) (aa : Ab (a0 * a0 + a1 * a1 + a2 * a2 - 1208925819614629174706176) 6597069766656) (bb : Ab (b0 * b0 + b1 * b1 + b2 * b2 - 1208925819614629174706176) 6597069766656) :
    ∃ c0 c1 c2 n, Cr a0 a1 a2 b0 b1 b2 c0 c1 c2 n := by
  obtain ⟨c0, c1, c2, ec, k0, k1, k2, e0, e1, e2⟩ := cross_near (B := 1099511627777) ha0 ha1 ha2 hb0 hb1 hb2 (by decide) (by decide) (by decide) (by decide)
  obtain ⟨n, en, n0, n1, n2⟩ := norm_near k0 k1 k2 (by decide)
  exact ⟨c0, c1, c2, n, ⟨ec, en, n0, n1, n2, e0, e1, e2, crossed_len ha0 ha1 ha2 hb0 hb1 hb2 aa bb e0 e1 e2 n1⟩⟩
/-- A frame, with what it comes of. -/
structure Ff (a0 a1 a2 c0 c1 c2 n v0 v1 v2 w0 w1 w2 : Int) : Prop where
  unit : vUnitS false (c0, c1, c2) = ((v0, v1, v2), false)
  cross : vCrossS false (a0, a1, a2) (v0, v1, v2) = ((w0, w1, w2), false)
  u0 : Uof v0 c0 n
  u1 : Uof v1 c1 n
  u2 : Uof v2 c2 n
  fr : Fr a0 a1 a2 v0 v1 v2 w0 w1 w2
theorem ff_of {a0 a1 a2 b0 b1 b2 c0 c1 c2 n : Int} (a0' : Ab a0 1099511627776) (a1' : Ab a1 1099511627776) (a2' : Ab a2 1099511627776) (aa : Ab (a0 * a0 + a1 * a1 + a2 * a2 - 1208925819614629174706176) 6597069766656) (C : Cr a0 a1 a2 b0 b1 b2 c0 c1 c2 n) (hn : 190928190487 ≤ n) : ∃ v0 v1 v2 w0 w1 w2, Ff a0 a1 a2 c0 c1 c2 n v0 v1 v2 w0 w1 w2 := by
  rcases vUnit_cases false (c0, c1, c2) with ⟨c, _⟩ | ⟨m, v0, v1, v2, _, k5, k6, _, _, _, _, k7, V0, V1, V2⟩
  · rw [C.norm] at c; have c' : n < 1048576 := c; omega
  rw [C.norm] at k5
  obtain rfl : n = m := congrArg Prod.fst k5
  dsimp only at V0 V1 V2
  have r0 : Ab v0 1099511627776 := ⟨V0.lo, V0.hi⟩
  have r1 : Ab v1 1099511627776 := ⟨V1.lo, V1.hi⟩
  have r2 : Ab v2 1099511627776 := ⟨V2.lo, V2.hi⟩
  obtain ⟨w0, w1, w2, ew, _, _, _, o0, o1, o2⟩ := cross_near (B := 1099511627777) a0' a1' a2' r0 r1 r2 (by decide) (by decide) (by decide) (by decide)
  have vv := unit_sum_w c0 c1 c2 n v0 v1 v2 hn C.n1 C.n2 V0 V1 V2
  have uv := upright_part hn a0' a1' a2' V0 V1 V2 C.e0 C.e1 C.e2
  have o0' : Ab (1099511627776 * w0 - (a1 * v2 - a2 * v1)) 1099511627776 := by rw [Int.mul_comm 1099511627776 w0]; exact o0
  have o1' : Ab (1099511627776 * w1 - (a2 * v0 - a0 * v2)) 1099511627776 := by rw [Int.mul_comm 1099511627776 w1]; exact o1
  have o2' : Ab (1099511627776 * w2 - (a0 * v1 - a1 * v0)) 1099511627776 := by rw [Int.mul_comm 1099511627776 w2]; exact o2
  have ww := ww_near a0' a1' a2' r0 r1 r2 aa vv uv o0' o1' o2'
  have q0 := sq_nonneg w0
  have q1 := sq_nonneg w1
  have q2 := sq_nonneg w2
  have := ww.hi
  exact ⟨v0, v1, v2, w0, w1, w2, ⟨k7, ew, V0, V1, V2, ⟨a0', a1', a2', r0, r1, r2, root_le (by decide) (by omega), root_le (by decide) (by omega), root_le (by decide) (by omega), aa, vv, uv, o0', o1', o2'⟩⟩⟩
/-- A unit, turned, is as long as it was, and its unit is about what it was turned to. -/
structure Tu (x y z s a0 a1 a2 t0 t1 t2 n X0 X1 X2 : Int) : Prop where
  turn : qTurnS false (x, y, z, s) (a0, a1, a2) = ((t0, t1, t2), false)
  un : Un t0 t1 t2 n X0 X1 X2
  near : Ab (n - 1099511627776) 1032
  h0 : Ab (1099511627776 * n * X0 - rvc x y z s a0 a1 a2) 26596368031521841843535872
  h1 : Ab (1099511627776 * n * X1 - rvc y z x s a1 a2 a0) 26596368031521841843535872
  h2 : Ab (1099511627776 * n * X2 - rvc z x y s a2 a0 a1) 26596368031521841843535872
theorem tu_of {x y z s p0 p1 p2 m a0 a1 a2 : Int} (U : U4 x y z s) (P : Un p0 p1 p2 m a0 a1 a2) (hm : 1099511627776 ≤ m) : ∃ t0 t1 t2 n X0 X1 X2, Tu x y z s a0 a1 a2 t0 t1 t2 n X0 X1 X2 := by
  obtain ⟨t0, t1, t2, et, k0, k1, k2⟩ := turn_near U.a0 U.a1 U.a2 U.a3 (by decide) (P.b0.le (by decide)) (P.b1.le (by decide)) (P.b2.le (by decide))
  have l0 := k0.le (show 2417851639229258349412352 + 6597069766656 * 1099511627776 ≤ (9671406556917033397649408 : Int) by decide)
  have l1 := k1.le (show 2417851639229258349412352 + 6597069766656 * 1099511627776 ≤ (9671406556917033397649408 : Int) by decide)
  have l2 := k2.le (show 2417851639229258349412352 + 6597069766656 * 1099511627776 ≤ (9671406556917033397649408 : Int) by decide)
  have j0 := turn_bd U.a0 U.a1 U.a2 U.a3 P.b0 P.b1 P.b2 l0
  have j1 := turn_bd U.a1 U.a2 U.a0 U.a3 P.b1 P.b2 P.b0 l1
  have j2 := turn_bd U.a2 U.a0 U.a1 U.a3 P.b2 P.b0 P.b1 l2
  obtain ⟨n, en, n0, n1, n2⟩ := norm_near j0 j1 j2 (by decide)
  obtain ⟨M, eM, M0, M1, M2⟩ := norm_near P.b0 P.b1 P.b2 (by decide)
  obtain ⟨b0, b1, b2, M', e1, e2, _, _, e3⟩ := one_math (p0, p1, p2) m P.norm (by omega)
  rw [P.unit] at e1
  simp only [Prod.mk.injEq] at e1
  obtain ⟨⟨rfl, rfl, rfl⟩, _⟩ := e1
  rw [eM] at e2
  obtain rfl : M = M' := congrArg Prod.fst e2
  have e4 := e3 hm
  have L := length_part U M0 (by omega) M1 M2 n0 n1 n2 l0 l1 l2
  have nr : Ab (n - 1099511627776) 1032 := by have := L.lo; have := L.hi; constructor <;> omega
  have r1 := nr.lo
  have r2 := nr.hi
  obtain ⟨X0, X1, X2, V⟩ := un_of en (by omega)
  exact ⟨t0, t1, t2, n, X0, X1, X2, ⟨et, V, nr, turned_unit U P.b0 k0 V.u0 (by omega), turned_unit U.next P.b1 k1 V.u1 (by omega), turned_unit U.next.next P.b2 k2 V.u2 (by omega)⟩⟩
end Go.Proofs.Ytkeijfbpkdelpaa
