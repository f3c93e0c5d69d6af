/-
  How long a unit of four numbers is; a turn keeps lengths, and a turn back leads back, but for some last bits: for the seat Ytkeijfbpkdelpaa. No Go text in sight.
-/
import Derived.Test.YtkeijfbpkdelpaaQNear
import Derived.Test.YtkeijfbpkdelpaaVOne
namespace Go.Proofs.Ytkeijfbpkdelpaa
open Go.RowKit

theorem unit_sum4 (a b c d N n x y z t : Int) (hN : 0 ≤ N) (hn : 549755813888 ≤ n) (h1 : N * N ≤ a * a + b * b + c * c) (h2 : a * a + b * b + c * c < (N + 1) * (N + 1)) (h3 : n * n ≤ N * N + d * d + 0 * 0) (h4 : N * N + d * d + 0 * 0 < (n + 1) * (n + 1))
    (X : Uof x a n) (Y : Uof y b n) (Z : Uof z c n) (T : Uof t d n) : Ab (x * x + y * y + z * z + t * t - 1208925819614629174706176) 14293651161088 := by
  have sa := sq_nonneg a
  have sb := sq_nonneg b
  have sc := sq_nonneg c
  have sd := sq_nonneg d
  have sN := sq_nonneg N
  have kN := abs_le_of_sq (a := N) (by omega : 0 ≤ n) (by omega)
  have ka := abs_le_of_sq (a := a) hN (by omega)
  have kb := abs_le_of_sq (a := b) hN (by omega)
  have kc := abs_le_of_sq (a := c) hN (by omega)
  have kd := abs_le_of_sq (a := d) (by omega : 0 ≤ n) (by omega)
  have ba := unit_sq_bd x a n X (by omega)
  have bb := unit_sq_bd y b n Y (by omega)
  have bc := unit_sq_bd z c n Z (by omega)
  have bd := unit_sq_bd t d n T kd
  have e : n * n * (x * x + y * y + z * z + t * t) = n * n * (x * x) + n * n * (y * y) + n * n * (z * z) + n * n * (t * t) := by grind
  have n2 : (n + 1) * (n + 1) = n * n + 2 * n + 1 := by grind
  have m2 : (N + 1) * (N + 1) = N * N + 2 * N + 1 := by grind
  rw [n2] at h4
  rw [m2] at h2
  have nn : 549755813888 * n ≤ n * n := Int.mul_le_mul_of_nonneg_right hn (by omega)
  generalize n * n * (x * x) = x' at *
  generalize n * n * (y * y) = y' at *
  generalize n * n * (z * z) = z' at *
  generalize n * n * (t * t) = t' at *
  generalize x * x + y * y + z * z + t * t = W at *
  generalize a * a = aa at *
  generalize b * b = bb' at *
  generalize c * c = cc at *
  generalize d * d = dd at *
  generalize N * N = NN at *
  constructor
  · by_cases k : 1208925819614629174706176 - 14293651161088 ≤ W
    · omega
    · have := Int.mul_le_mul_of_nonneg_left (by omega : W ≤ 1208925819614629174706176 - 14293651161088 - 1) (by omega : 0 ≤ n * n)
      generalize n * n = q at *
      omega
  · by_cases k : W ≤ 1208925819614629174706176 + 14293651161088
    · omega
    · have h3 := Int.mul_le_mul_of_nonneg_left (by omega : 1208925819614629174706176 + 14293651161088 + 1 ≤ W) (by omega : 0 ≤ n * n)
      generalize n * n = q at *
      omega
/-- A unit's parts, and its length. -/
structure U4 (u0 u1 u2 u3 : Int) : Prop where
  a0 : Ab u0 1099511627776
  a1 : Ab u1 1099511627776
  a2 : Ab u2 1099511627776
  a3 : Ab u3 1099511627776
  up : 0 ≤ u3
  len : Ab (u0 * u0 + u1 * u1 + u2 * u2 + u3 * u3 - 1208925819614629174706176) 14293651161088
theorem unit_math (q : V4) : (qUnitS false q = ((0, 0, 0, 0), true)) ∨ ∃ u0 u1 u2 u3, qUnitS false q = ((u0, u1, u2, u3), false) ∧ U4 u0 u1 u2 u3 := by
  rcases qUnit_cases false q with ⟨_, e⟩ | ⟨N, n, d0, d1, d2, d3, _, h1, h2, c, _, _, _, _, U0, U1, U2, U3, e⟩
  · exact Or.inl e
  · refine Or.inr ?_
    have g1 := normS_good h1
    have g2 := normS_good h2
    have s := unit_sum4 q.1 q.2.1 q.2.2.1 q.2.2.2 N n d0 d1 d2 d3 g1.2.2.2.2.1 c g1.2.2.2.2.2.2.1 g1.2.2.2.2.2.2.2 g2.2.2.2.2.2.2.1 g2.2.2.2.2.2.2.2 U0 U1 U2 U3
    by_cases k : d3 < 0
    · rw [if_pos k] at e
      refine ⟨-d0, -d1, -d2, -d3, e, ⟨⟨by have := U0.hi; omega, by have := U0.lo; omega⟩, ⟨by have := U1.hi; omega, by have := U1.lo; omega⟩, ⟨by have := U2.hi; omega, by have := U2.lo; omega⟩, ⟨by have := U3.hi; omega, by have := U3.lo; omega⟩, by omega, ?_⟩⟩
      rw [Int.neg_mul_neg, Int.neg_mul_neg, Int.neg_mul_neg, Int.neg_mul_neg]
      exact s
    · rw [if_neg k] at e
      exact ⟨d0, d1, d2, d3, e, ⟨⟨U0.lo, U0.hi⟩, ⟨U1.lo, U1.hi⟩, ⟨U2.lo, U2.hi⟩, ⟨U3.lo, U3.hi⟩, by omega, s⟩⟩
theorem tnc_bd {a0 a1 a2 s v0 v1 v2 K : Int} (h0 : Ab a0 1099511627776) (h1 : Ab a1 1099511627776) (h2 : Ab a2 1099511627776) (hs : Ab s 1099511627776) (k0 : Ab v0 K) (k1 : Ab v1 K) (k2 : Ab v2 K) : Ab (tnc a0 a1 a2 s v0 v1 v2) (15716035654990179271180288 * K) := by
  unfold tnc qfc
  exact ((Ab.one80.mul k0).add ((Ab.two.mul ((h1.mul ((h0.mul k1).sub (h1.mul k0))).sub (h2.mul ((h2.mul k0).sub (h0.mul k2))))).sub (Ab.two.mul (hs.mul ((h1.mul k2).sub (h2.mul k1)))))).le (by omega)
/-- There and back again, with no rounding. -/
theorem there_back (a0 a1 a2 s v0 v1 v2 : Int) :
    tnc (-a0) (-a1) (-a2) s (tnc a0 a1 a2 s v0 v1 v2) (tnc a1 a2 a0 s v1 v2 v0) (tnc a2 a0 a1 s v2 v0 v1) =
      1461501637330902918203684832716283019655932542976 * v0 - 4 * ((a0 * a0 + a1 * a1 + a2 * a2 + s * s - 1208925819614629174706176) * (a1 * (a0 * v1 - a1 * v0) - a2 * (a2 * v0 - a0 * v2))) := by
  unfold tnc qfc; grind
theorem lengths (a0 a1 a2 s v0 v1 v2 : Int) :
    tnc a0 a1 a2 s v0 v1 v2 * tnc a0 a1 a2 s v0 v1 v2 + tnc a1 a2 a0 s v1 v2 v0 * tnc a1 a2 a0 s v1 v2 v0 + tnc a2 a0 a1 s v2 v0 v1 * tnc a2 a0 a1 s v2 v0 v1 =
      1461501637330902918203684832716283019655932542976 * (v0 * v0 + v1 * v1 + v2 * v2) + 4 * ((a0 * a0 + a1 * a1 + a2 * a2 + s * s - 1208925819614629174706176) * ((a1 * v2 - a2 * v1) * (a1 * v2 - a2 * v1) + (a2 * v0 - a0 * v2) * (a2 * v0 - a0 * v2) + (a0 * v1 - a1 * v0) * (a0 * v1 - a1 * v0))) := by
  unfold tnc qfc; grind
end Go.Proofs.Ytkeijfbpkdelpaa
