/-
  How long a unit is, and how upright what two units are crossed to, for the seat Ytoaghmbaijlklaa. No Go text in sight.
-/
import Derived.Test.YtoaghmbaijlklaaVNear
namespace Go.Proofs.Ytoaghmbaijlklaa
open Go.RowKit

/-- A part of a unit, squared, by n squared. -/
theorem unit_sq (u a n : Int) : n * n * (u * u) = 1208925819614629174706176 * (a * a) + 1099511627776 * (a * (2 * (u * n - a * 1099511627776))) + (u * n - a * 1099511627776) * (u * n - a * 1099511627776) := by grind
theorem unit_sq_bd (u a n : Int) (U : Uof u a n) (ha : -n ≤ a ∧ a ≤ n) : 1208925819614629174706176 * (a * a) - 1099511627776 * (n * n) ≤ n * n * (u * u) ∧ 4 * (n * n * (u * u)) ≤ 4 * (1208925819614629174706176 * (a * a) + 1099511627776 * (n * n)) + n * n := by
  rw [unit_sq]
  have h := U.up
  have k := U.dn
  have e : -n ≤ 2 * (u * n - a * 1099511627776) ∧ 2 * (u * n - a * 1099511627776) ≤ n := by omega
  have p := absmul ha e
  have q := absmul e e
  have s := sq_nonneg (u * n - a * 1099511627776)
  have r : 2 * (u * n - a * 1099511627776) * (2 * (u * n - a * 1099511627776)) = 4 * ((u * n - a * 1099511627776) * (u * n - a * 1099511627776)) := by grind
  rw [r] at q
  generalize a * (2 * (u * n - a * 1099511627776)) = P at *
  generalize (u * n - a * 1099511627776) * (u * n - a * 1099511627776) = E at *
  omega
/-- The squares of a unit's parts, together. -/
theorem unit_sum (a b c n u v t : Int) (hn : 1048576 ≤ n) (h1 : n * n ≤ a * a + b * b + c * c) (h2 : a * a + b * b + c * c < (n + 1) * (n + 1)) (U : Uof u a n) (V : Uof v b n) (T : Uof t c n) :
    1208925819614629174706176 - 3298534883328 ≤ u * u + v * v + t * t ∧ (1099511627776 ≤ n → u * u + v * v + t * t ≤ 1208925819614629174706176 + 5497558138881) ∧ u * u + v * v + t * t ≤ 1208925819614629174706176 + 2305843009213693952 + 3298534883329 := by
  have sa := sq_nonneg a
  have sb := sq_nonneg b
  have sc := sq_nonneg c
  have ba := unit_sq_bd u a n U (abs_le_of_sq (by omega) (by omega))
  have bb := unit_sq_bd v b n V (abs_le_of_sq (by omega) (by omega))
  have bc := unit_sq_bd t c n T (abs_le_of_sq (by omega) (by omega))
  have e : n * n * (u * u + v * v + t * t) = n * n * (u * u) + n * n * (v * v) + n * n * (t * t) := by grind
  have n2 : (n + 1) * (n + 1) = n * n + 2 * n + 1 := by grind
  rw [n2] at h2
  generalize n * n * (u * u) = x at *
  generalize n * n * (v * v) = y at *
  generalize n * n * (t * t) = z at *
  generalize u * u + v * v + t * t = W at *
  generalize a * a = aa at *
  generalize b * b = bb' at *
  generalize c * c = cc at *
  have nn : 1048576 * n ≤ n * n := Int.mul_le_mul_of_nonneg_right hn (by omega)
  have np : 0 < n * n := by omega
  refine ⟨?_, fun hb => ?_, ?_⟩
  · by_cases k : 1208925819614629174706176 - 3298534883328 ≤ W
    · exact k
    · have := Int.mul_le_mul_of_nonneg_left (by omega : W ≤ 1208925819614629174706176 - 3298534883328 - 1) (by omega : 0 ≤ n * n)
      omega
  · by_cases k : W ≤ 1208925819614629174706176 + 5497558138881
    · exact k
    · have h3 := Int.mul_le_mul_of_nonneg_left (by omega : 1208925819614629174706176 + 5497558138881 + 1 ≤ W) (by omega : 0 ≤ n * n)
      have h4 : 1099511627776 * n ≤ n * n := Int.mul_le_mul_of_nonneg_right hb (by omega)
      generalize n * n = q at *
      omega
  · by_cases k : W ≤ 1208925819614629174706176 + 2305843009213693952 + 3298534883329
    · exact k
    · have h3 := Int.mul_le_mul_of_nonneg_left (by omega : 1208925819614629174706176 + 2305843009213693952 + 3298534883329 + 1 ≤ W) (by omega : 0 ≤ n * n)
      generalize n * n = q at *
      omega
theorem one_math (p : V3) (n : Int) (h : vNormS false p = (n, false)) (hn : 1048576 ≤ n) :
    ∃ u0 u1 u2 N, vUnitS false p = ((u0, u1, u2), false) ∧ vNormS false (u0, u1, u2) = (N, false) ∧ -4194304 ≤ N - 1099511627776 ∧ N - 1099511627776 ≤ 4194304 ∧ (1099511627776 ≤ n → -8 ≤ N - 1099511627776 ∧ N - 1099511627776 ≤ 8) := by
  rcases vUnit_cases false p with ⟨c, _⟩ | ⟨n', u0, u1, u2, _, hv, hm, _, _, _, _, e, U0, U1, U2⟩
  · rw [h] at c; have c' : n < 1048576 := c; omega
  · rw [h] at hv
    obtain rfl : n = n' := congrArg Prod.fst hv
    have g := normS_good hm
    have s := unit_sum p.1 p.2.1 p.2.2 n u0 u1 u2 hn g.2.2.2.2.2.2.1 g.2.2.2.2.2.2.2 U0 U1 U2
    have bu := absmul ⟨U0.lo, U0.hi⟩ ⟨U0.lo, U0.hi⟩
    have i := isq_spec (u0 * u0 + u1 * u1 + u2 * u2) (by omega) (by omega)
    generalize isq (u0 * u0 + u1 * u1 + u2 * u2) = N at *
    have lo : 1099511627774 ≤ N := by
      by_cases k : 1099511627774 ≤ N
      · exact k
      · have := sq_mono (by omega : 0 ≤ N + 1) (by omega : N + 1 ≤ 1099511627774)
        omega
    have hi : N ≤ 1099513724928 := by
      by_cases k : N ≤ 1099513724928
      · exact k
      · have := sq_mono (by omega : (0 : Int) ≤ 1099513724928) (by omega : 1099513724928 ≤ N)
        omega
    have n0 : numB u0 = true := numB_of ⟨by have := U0.lo; omega, by have := U0.hi; omega⟩
    have n1 : numB u1 = true := numB_of ⟨by have := U1.lo; omega, by have := U1.hi; omega⟩
    have n2 : numB u2 = true := numB_of ⟨by have := U2.lo; omega, by have := U2.hi; omega⟩
    have eN : normS false u0 u1 u2 = (N, false) := normS_make n0 n1 n2 i.1 (by omega) i.2.1 i.2.2
    refine ⟨u0, u1, u2, N, e, eN, by omega, by omega, fun hb => ⟨by omega, ?_⟩⟩
    have s2 := s.2.1 hb
    by_cases k : N ≤ 1099511627779
    · omega
    · have := sq_mono (by omega : (0 : Int) ≤ 1099511627780) (by omega : 1099511627780 ≤ N)
      omega
/-- Two units, what they are crossed to, and both Dots with it. -/
theorem upright_math (p q : V3) (n m : Int) (hp : vNormS false p = (n, false)) (hq : vNormS false q = (m, false)) (hn : 1099511627776 ≤ n) (hm : 1099511627776 ≤ m) :
    ∃ u0 u1 u2 v0 v1 v2 c0 c1 c2 d e, vUnitS false p = ((u0, u1, u2), false) ∧ vUnitS false q = ((v0, v1, v2), false) ∧ vCrossS false (u0, u1, u2) (v0, v1, v2) = ((c0, c1, c2), false) ∧
      vDotS false (u0, u1, u2) (c0, c1, c2) = (d, false) ∧ vDotS false (v0, v1, v2) (c0, c1, c2) = (e, false) ∧ -16 ≤ d ∧ d ≤ 16 ∧ -16 ≤ e ∧ e ≤ 16 := by
  rcases vUnit_cases false p with ⟨c, _⟩ | ⟨_, u0, u1, u2, _, _, _, _, _, _, _, eu, U0, U1, U2⟩
  · rw [hp] at c; have c' : n < 1048576 := c; omega
  rcases vUnit_cases false q with ⟨c, _⟩ | ⟨_, v0, v1, v2, _, _, _, _, _, _, _, ev, V0, V1, V2⟩
  · rw [hq] at c; have c' : m < 1048576 := c; omega
  have a0 : -1099511627776 ≤ u0 ∧ u0 ≤ 1099511627776 := ⟨U0.lo, U0.hi⟩
  have a1 : -1099511627776 ≤ u1 ∧ u1 ≤ 1099511627776 := ⟨U1.lo, U1.hi⟩
  have a2 : -1099511627776 ≤ u2 ∧ u2 ≤ 1099511627776 := ⟨U2.lo, U2.hi⟩
  have b0 : -1099511627776 ≤ v0 ∧ v0 ≤ 1099511627776 := ⟨V0.lo, V0.hi⟩
  have b1 : -1099511627776 ≤ v1 ∧ v1 ≤ 1099511627776 := ⟨V1.lo, V1.hi⟩
  have b2 : -1099511627776 ≤ v2 ∧ v2 ≤ 1099511627776 := ⟨V2.lo, V2.hi⟩
  obtain ⟨c0, c1, c2, ec, h0, h1, h2, k0, k1, k2⟩ := cross_one (u0, u1, u2) (v0, v1, v2) a0 a1 a2 b0 b1 b2
  dsimp only at k0 k1 k2
  obtain ⟨d, ed, d1, d2⟩ := dot_one (u0, u1, u2) (c0, c1, c2) (by dsimp only; omega) (by dsimp only; omega) (by dsimp only; omega) h0 h1 h2
  obtain ⟨e, ee, e1, e2⟩ := dot_one (v0, v1, v2) (c0, c1, c2) (by dsimp only; omega) (by dsimp only; omega) (by dsimp only; omega) h0 h1 h2
  dsimp only at d1 d2 e1 e2
  refine ⟨u0, u1, u2, v0, v1, v2, c0, c1, c2, d, e, eu, ev, ec, ed, ee, ?_⟩
  have x0 := absmul a0 k0
  have x1 := absmul a1 k1
  have x2 := absmul a2 k2
  have y0 := absmul b0 k0
  have y1 := absmul b1 k1
  have y2 := absmul b2 k2
  have ix : u0 * (c0 * 1099511627776 - (u1 * v2 - u2 * v1)) + u1 * (c1 * 1099511627776 - (u2 * v0 - u0 * v2)) + u2 * (c2 * 1099511627776 - (u0 * v1 - u1 * v0)) = (u0 * c0 + u1 * c1 + u2 * c2) * 1099511627776 := by grind
  have iy : v0 * (c0 * 1099511627776 - (u1 * v2 - u2 * v1)) + v1 * (c1 * 1099511627776 - (u2 * v0 - u0 * v2)) + v2 * (c2 * 1099511627776 - (u0 * v1 - u1 * v0)) = (v0 * c0 + v1 * c1 + v2 * c2) * 1099511627776 := by grind
  generalize u0 * (c0 * 1099511627776 - (u1 * v2 - u2 * v1)) = X0 at *
  generalize u1 * (c1 * 1099511627776 - (u2 * v0 - u0 * v2)) = X1 at *
  generalize u2 * (c2 * 1099511627776 - (u0 * v1 - u1 * v0)) = X2 at *
  generalize v0 * (c0 * 1099511627776 - (u1 * v2 - u2 * v1)) = Y0 at *
  generalize v1 * (c1 * 1099511627776 - (u2 * v0 - u0 * v2)) = Y1 at *
  generalize v2 * (c2 * 1099511627776 - (u0 * v1 - u1 * v0)) = Y2 at *
  generalize u0 * c0 + u1 * c1 + u2 * c2 = GX at *
  generalize v0 * c0 + v1 * c1 + v2 * c2 = GY at *
  omega
end Go.Proofs.Ytoaghmbaijlklaa
