/-
  An attitude's matrix is that attitude again, but for some last bits: for the seat Ytkeijfbpkdelpaa. No Go text in sight.
-/
import Derived.Test.YtkeijfbpkdelpaaQAfterM
import Derived.Test.YtkeijfbpkdelpaaQMSpec
namespace Go.Proofs.Ytkeijfbpkdelpaa
open Go.RowKit

theorem entry {m E T : Int} (h : Ab (1208925819614629174706176 * m - T) (2417851639229258349412352 + 6597069766656 * 1099511627776)) (e : T = 1099511627776 * E) : Ab (1099511627776 * m - E) 8796093022208 := by
  subst e
  have := h.lo; have := h.hi
  constructor <;> omega
/-- The parts of a matrix. -/
structure M9 (x y z s m00 m01 m02 m10 m11 m12 m20 m21 m22 : Int) : Prop where
  h00 : Ab (1099511627776 * m00 - (1208925819614629174706176 - 2 * (y * y) - 2 * (z * z))) 8796093022208
  h01 : Ab (1099511627776 * m01 - (2 * (x * y) + 2 * (s * z))) 8796093022208
  h02 : Ab (1099511627776 * m02 - (2 * (x * z) - 2 * (s * y))) 8796093022208
  h10 : Ab (1099511627776 * m10 - (2 * (x * y) - 2 * (s * z))) 8796093022208
  h11 : Ab (1099511627776 * m11 - (1208925819614629174706176 - 2 * (x * x) - 2 * (z * z))) 8796093022208
  h12 : Ab (1099511627776 * m12 - (2 * (y * z) + 2 * (s * x))) 8796093022208
  h20 : Ab (1099511627776 * m20 - (2 * (x * z) + 2 * (s * y))) 8796093022208
  h21 : Ab (1099511627776 * m21 - (2 * (y * z) - 2 * (s * x))) 8796093022208
  h22 : Ab (1099511627776 * m22 - (1208925819614629174706176 - 2 * (x * x) - 2 * (y * y))) 8796093022208
theorem matrix_math {x y z s : Int} (U : U4 x y z s) : ∃ m00 m01 m02 m10 m11 m12 m20 m21 m22, qMatrixS false (x, y, z, s) = ((m00, m01, m02, m10, m11, m12, m20, m21, m22), false) ∧ M9 x y z s m00 m01 m02 m10 m11 m12 m20 m21 m22 := by
  have z0 : Ab 0 17592186044416 := Ab.zero (by decide)
  have zA : Ab 1099511627776 17592186044416 := ⟨by decide, by decide⟩
  obtain ⟨m00, m10, m20, e0, a0, a1, a2⟩ := turn_near U.a0 U.a1 U.a2 U.a3 (by decide) zA z0 z0
  obtain ⟨m01, m11, m21, e1, b0, b1, b2⟩ := turn_near U.a0 U.a1 U.a2 U.a3 (by decide) z0 zA z0
  obtain ⟨m02, m12, m22, e2, c0, c1, c2⟩ := turn_near U.a0 U.a1 U.a2 U.a3 (by decide) z0 z0 zA
  refine ⟨m00, m01, m02, m10, m11, m12, m20, m21, m22, ?_, ⟨entry a0 ?_, entry b0 ?_, entry c0 ?_, entry a1 ?_, entry b1 ?_, entry c1 ?_, entry a2 ?_, entry b2 ?_, entry c2 ?_⟩⟩
  · unfold qMatrixS
    simp only [e0, e1, e2, sound9S_no]
  all_goals (unfold tnc qfc; grind)
theorem max4_spec (a b c d : Int) : a ≤ max4 a b c d ∧ b ≤ max4 a b c d ∧ c ≤ max4 a b c d ∧ d ≤ max4 a b c d ∧ (max4 a b c d = a ∨ max4 a b c d = b ∨ max4 a b c d = c ∨ max4 a b c d = d) := by
  unfold max4
  by_cases h1 : b > a
  · rw [if_pos h1]
    by_cases h2 : c > b
    · rw [if_pos h2]
      by_cases h3 : d > c
      · rw [if_pos h3]; omega
      · rw [if_neg h3]; omega
    · rw [if_neg h2]
      by_cases h3 : d > b
      · rw [if_pos h3]; omega
      · rw [if_neg h3]; omega
  · rw [if_neg h1]
    by_cases h2 : c > a
    · rw [if_pos h2]
      by_cases h3 : d > c
      · rw [if_pos h3]; omega
      · rw [if_neg h3]; omega
    · rw [if_neg h2]
      by_cases h3 : d > a
      · rw [if_pos h3]; omega
      · rw [if_neg h3]; omega
/-- The unit of four numbers of which one is long enough: its length, its quotients. -/
theorem unit_full {g0 g1 g2 g3 : Int} (h0 : Ab g0 70368744177664) (h1 : Ab g1 70368744177664) (h2 : Ab g2 70368744177664) (h3 : Ab g3 70368744177664) (big : 549755813888 ≤ g0 ∨ 549755813888 ≤ g1 ∨ 549755813888 ≤ g2 ∨ 549755813888 ≤ g3) :
    ∃ n d0 d1 d2 d3, 0 ≤ n ∧ Ab g0 n ∧ Ab g1 n ∧ Ab g2 n ∧ Ab g3 n ∧ n * n ≤ g0 * g0 + g1 * g1 + g2 * g2 + g3 * g3 ∧ g0 * g0 + g1 * g1 + g2 * g2 + g3 * g3 ≤ n * n + 4 * n + 1 ∧ Uof d0 g0 n ∧ Uof d1 g1 n ∧ Uof d2 g2 n ∧ Uof d3 g3 n ∧
      qUnitS false (g0, g1, g2, g3) = (if d3 < 0 then (-d0, -d1, -d2, -d3) else (d0, d1, d2, d3), false) := by
  obtain ⟨N, eN, N0, N1, N2⟩ := norm_near h0 h1 h2 (by decide)
  have s0 := sq_nonneg g0
  have s1 := sq_nonneg g1
  have s2 := sq_nonneg g2
  have s3 := sq_nonneg g3
  have sN := sq_nonneg N
  have kN : Ab N 281474976710656 := by
    refine ⟨by omega, ?_⟩
    have := (h0.mul h0).hi; have := (h1.mul h1).hi; have := (h2.mul h2).hi
    by_cases c : N ≤ 281474976710656
    · exact c
    · have := sq_mono (by omega : (0 : Int) ≤ 281474976710656) (by omega : 281474976710656 ≤ N)
      omega
  obtain ⟨n, en, n0, n1, n2⟩ := norm_near kN (h3.le (by decide)) (Ab.zero (by decide)) (by decide)
  have k0 := abs_le_of_sq (a := g0) N0 (by omega)
  have k1 := abs_le_of_sq (a := g1) N0 (by omega)
  have k2 := abs_le_of_sq (a := g2) N0 (by omega)
  have k3 := abs_le_of_sq (a := g3) n0 (by omega)
  have kn := abs_le_of_sq (a := N) n0 (by omega)
  have m1 : (N + 1) * (N + 1) = N * N + 2 * N + 1 := by grind
  have m2 : (n + 1) * (n + 1) = n * n + 2 * n + 1 := by grind
  rcases qUnit_cases false (g0, g1, g2, g3) with ⟨c, _⟩ | ⟨N', n', d0, d1, d2, d3, _, e1, e2, _, _, _, _, _, U0, U1, U2, U3, e⟩
  · have eN' : vNormS false (g0, g1, g2) = (N, false) := eN
    have en' : normS false N g3 0 = (n, false) := en
    dsimp only at c
    rw [eN'] at c
    dsimp only at c
    rw [en'] at c
    dsimp only at c
    omega
  · have eN' : normS false g0 g1 g2 = (N, false) := eN
    have en' : normS false N g3 0 = (n, false) := en
    dsimp only at e1 e2 U0 U1 U2 U3
    rw [eN'] at e1
    obtain rfl : N = N' := congrArg Prod.fst e1
    rw [en'] at e2
    obtain rfl : n = n' := congrArg Prod.fst e2
    refine ⟨n, d0, d1, d2, d3, n0, ⟨by omega, by omega⟩, ⟨by omega, by omega⟩, ⟨by omega, by omega⟩, ⟨k3.1, k3.2⟩, by omega, by omega, U0, U1, U2, U3, e⟩
theorem uof_ab {u a n : Int} (h : Uof u a n) : Ab (2 * (u * n - a * 1099511627776)) n := ⟨by have := h.dn; omega, by have := h.up; omega⟩
theorem way_part {x y z s k g0 g1 g2 g3 n w0 w1 w2 w3 d c : Int} (U : U4 x y z s) (hn : 1099511627776 ≤ n) (hc : c = 1 ∨ c = -1)
    (e0 : Ab (1099511627776 * g0 - k * x) 83562883710976) (e1 : Ab (1099511627776 * g1 - k * y) 83562883710976) (e2 : Ab (1099511627776 * g2 - k * z) 83562883710976) (e3 : Ab (1099511627776 * g3 - k * s) 83562883710976)
    (f0 : Ab (2 * (w0 * n - c * g0 * 1099511627776)) n) (f1 : Ab (2 * (w1 * n - c * g1 * 1099511627776)) n) (f2 : Ab (2 * (w2 * n - c * g2 * 1099511627776)) n) (f3 : Ab (2 * (w3 * n - c * g3 * 1099511627776)) n)
    (hd : Ab (1099511627776 * d - (w0 * s + -x * w3 + (-y * w2 - -z * w1))) 2199023255552) : Ab d 1024 := by
  have id : 2 * (n * (w0 * s + -x * w3 + (-y * w2 - -z * w1))) = 2 * (w0 * n - c * g0 * 1099511627776) * s - 2 * (w3 * n - c * g3 * 1099511627776) * x - 2 * (w2 * n - c * g2 * 1099511627776) * y + 2 * (w1 * n - c * g1 * 1099511627776) * z
      + 2 * (c * ((1099511627776 * g0 - k * x) * s - (1099511627776 * g3 - k * s) * x - (1099511627776 * g2 - k * z) * y + (1099511627776 * g1 - k * y) * z)) := by grind
  have cc : Ab c 1 := by rcases hc with rfl | rfl <;> constructor <;> decide
  have b := (((((f0.mul U.a3).sub (f3.mul U.a0)).sub (f2.mul U.a1)).add (f1.mul U.a2))).add (Ab.two.mul (cc.mul ((((e0.mul U.a3).sub (e3.mul U.a0)).sub (e2.mul U.a1)).add (e1.mul U.a2))))
  rw [← id] at b
  generalize w0 * s + -x * w3 + (-y * w2 - -z * w1) = P at *
  have bl := b.lo
  have bh := b.hi
  have hP : Ab P 1000000000000000 := by
    constructor
    · by_cases q : -1000000000000000 ≤ P
      · exact q
      · have := Int.mul_le_mul_of_nonneg_left (by omega : P ≤ -1000000000000001) (by omega : 0 ≤ n)
        omega
    · by_cases q : P ≤ 1000000000000000
      · exact q
      · have := Int.mul_le_mul_of_nonneg_left (by omega : 1000000000000001 ≤ P) (by omega : 0 ≤ n)
        omega
  have := hP.lo; have := hP.hi; have := hd.lo; have := hd.hi
  constructor <;> omega
theorem way_math {x y z s k g0 g1 g2 g3 : Int} (U : U4 x y z s) (e0 : Ab (1099511627776 * g0 - k * x) 83562883710976) (e1 : Ab (1099511627776 * g1 - k * y) 83562883710976) (e2 : Ab (1099511627776 * g2 - k * z) 83562883710976) (e3 : Ab (1099511627776 * g3 - k * s) 83562883710976)
    (h0 : Ab g0 70368744177664) (h1 : Ab g1 70368744177664) (h2 : Ab g2 70368744177664) (h3 : Ab g3 70368744177664) (big : 1099511627776 ≤ g0 ∨ 1099511627776 ≤ g1 ∨ 1099511627776 ≤ g2 ∨ 1099511627776 ≤ g3) :
    ∃ w0 w1 w2 w3 d0 d1 d2 d3, qUnitS false (g0, g1, g2, g3) = ((w0, w1, w2, w3), false) ∧ qMulS false (w0, w1, w2, w3) (-x, -y, -z, s) = ((d0, d1, d2, d3), false) ∧ Ab d0 1024 ∧ Ab d1 1024 ∧ Ab d2 1024 := by
  obtain ⟨n, q0, q1, q2, q3, n0, b0, b1, b2, b3, _, _, Q0, Q1, Q2, Q3, e⟩ := unit_full h0 h1 h2 h3 (by omega)
  have hn : 1099511627776 ≤ n := by have := b0.hi; have := b1.hi; have := b2.hi; have := b3.hi; omega
  have fin : ∀ (c w0 w1 w2 w3 : Int), (c = 1 ∨ c = -1) → Ab w0 1099511627776 → Ab w1 1099511627776 → Ab w2 1099511627776 → Ab w3 1099511627776 →
      Ab (2 * (w0 * n - c * g0 * 1099511627776)) n → Ab (2 * (w1 * n - c * g1 * 1099511627776)) n → Ab (2 * (w2 * n - c * g2 * 1099511627776)) n → Ab (2 * (w3 * n - c * g3 * 1099511627776)) n →
      ∃ d0 d1 d2 d3, qMulS false (w0, w1, w2, w3) (-x, -y, -z, s) = ((d0, d1, d2, d3), false) ∧ Ab d0 1024 ∧ Ab d1 1024 ∧ Ab d2 1024 := by
    intro c w0 w1 w2 w3 hc a0 a1 a2 a3 f0 f1 f2 f3
    obtain ⟨d0, d1, d2, d3, ed, _, _, _, _, m0, m1, m2, _⟩ := mul4_near a0 a1 a2 a3 U.a0.neg U.a1.neg U.a2.neg U.a3
    exact ⟨d0, d1, d2, d3, ed, way_part U hn hc e0 e1 e2 e3 f0 f1 f2 f3 m0, way_part U.next hn hc e1 e2 e0 e3 f1 f2 f0 f3 m1, way_part U.next.next hn hc e2 e0 e1 e3 f2 f0 f1 f3 m2⟩
  by_cases k3 : q3 < 0
  · rw [if_pos k3] at e
    obtain ⟨d0, d1, d2, d3, ed, r0, r1, r2⟩ := fin (-1) (-q0) (-q1) (-q2) (-q3) (Or.inr rfl) (Ab.neg ⟨Q0.lo, Q0.hi⟩) (Ab.neg ⟨Q1.lo, Q1.hi⟩) (Ab.neg ⟨Q2.lo, Q2.hi⟩) (Ab.neg ⟨Q3.lo, Q3.hi⟩)
      (by rw [show 2 * (-q0 * n - -1 * g0 * 1099511627776) = -(2 * (q0 * n - g0 * 1099511627776)) by grind]; exact (uof_ab Q0).neg) (by rw [show 2 * (-q1 * n - -1 * g1 * 1099511627776) = -(2 * (q1 * n - g1 * 1099511627776)) by grind]; exact (uof_ab Q1).neg)
      (by rw [show 2 * (-q2 * n - -1 * g2 * 1099511627776) = -(2 * (q2 * n - g2 * 1099511627776)) by grind]; exact (uof_ab Q2).neg) (by rw [show 2 * (-q3 * n - -1 * g3 * 1099511627776) = -(2 * (q3 * n - g3 * 1099511627776)) by grind]; exact (uof_ab Q3).neg)
    exact ⟨_, _, _, _, d0, d1, d2, d3, e, ed, r0, r1, r2⟩
  · rw [if_neg k3] at e
    obtain ⟨d0, d1, d2, d3, ed, r0, r1, r2⟩ := fin 1 q0 q1 q2 q3 (Or.inl rfl) ⟨Q0.lo, Q0.hi⟩ ⟨Q1.lo, Q1.hi⟩ ⟨Q2.lo, Q2.hi⟩ ⟨Q3.lo, Q3.hi⟩
      (by rw [Int.one_mul]; exact uof_ab Q0) (by rw [Int.one_mul]; exact uof_ab Q1) (by rw [Int.one_mul]; exact uof_ab Q2) (by rw [Int.one_mul]; exact uof_ab Q3)
    exact ⟨_, _, _, _, d0, d1, d2, d3, e, ed, r0, r1, r2⟩
/-- An attitude's matrix, and the attitude of that. -/
theorem there_math {x y z s : Int} (U : U4 x y z s) : ∃ m : V9, ∃ w0 w1 w2 w3 d0 d1 d2 d3, qMatrixS false (x, y, z, s) = (m, false) ∧ qFromMatrixS false m = ((w0, w1, w2, w3), false) ∧ qMulS false (w0, w1, w2, w3) (-x, -y, -z, s) = ((d0, d1, d2, d3), false) ∧ Ab d0 1024 ∧ Ab d1 1024 ∧ Ab d2 1024 := by
  obtain ⟨m00, m01, m02, m10, m11, m12, m20, m21, m22, em, H⟩ := matrix_math U
  refine ⟨(m00, m01, m02, m10, m11, m12, m20, m21, m22), ?_⟩
  suffices h : ∃ w0 w1 w2 w3 d0 d1 d2 d3, qFromMatrixS false (m00, m01, m02, m10, m11, m12, m20, m21, m22) = ((w0, w1, w2, w3), false) ∧ qMulS false (w0, w1, w2, w3) (-x, -y, -z, s) = ((d0, d1, d2, d3), false) ∧ Ab d0 1024 ∧ Ab d1 1024 ∧ Ab d2 1024 by
    obtain ⟨w0, w1, w2, w3, d0, d1, d2, d3, e, ed, r⟩ := h
    exact ⟨w0, w1, w2, w3, d0, d1, d2, d3, em, e, ed, r⟩
  have xx := U.a0.mul U.a0
  have yy := U.a1.mul U.a1
  have zz := U.a2.mul U.a2
  have ss := U.a3.mul U.a3
  have xy := U.a0.mul U.a1
  have xz := U.a0.mul U.a2
  have yz := U.a1.mul U.a2
  have sx := U.a3.mul U.a0
  have sy := U.a3.mul U.a1
  have sz' := U.a3.mul U.a2
  have hl := U.len
  have hl1 := hl.lo
  have hl2 := hl.hi
  have B : ∀ {m E : Int}, Ab (1099511627776 * m - E) 8796093022208 → Ab E 6044629098073145873530880 → Ab m 5497558138889 := by
    intro m E a b
    have := a.lo; have := a.hi; have := b.lo; have := b.hi
    constructor <;> omega
  have B00 := B H.h00 (((Ab.one80.sub (Ab.two.mul yy)).sub (Ab.two.mul zz)).le (by decide))
  have B11 := B H.h11 (((Ab.one80.sub (Ab.two.mul xx)).sub (Ab.two.mul zz)).le (by decide))
  have B22 := B H.h22 (((Ab.one80.sub (Ab.two.mul xx)).sub (Ab.two.mul yy)).le (by decide))
  have B01 := B H.h01 (((Ab.two.mul xy).add (Ab.two.mul sz')).le (by decide))
  have B10 := B H.h10 (((Ab.two.mul xy).sub (Ab.two.mul sz')).le (by decide))
  have B02 := B H.h02 (((Ab.two.mul xz).sub (Ab.two.mul sy)).le (by decide))
  have B20 := B H.h20 (((Ab.two.mul xz).add (Ab.two.mul sy)).le (by decide))
  have B12 := B H.h12 (((Ab.two.mul yz).add (Ab.two.mul sx)).le (by decide))
  have B21 := B H.h21 (((Ab.two.mul yz).sub (Ab.two.mul sx)).le (by decide))
  have t1 := add_near B00 B11 (by decide) (by decide) (by decide)
  have t2 := add_near (B00.add B11) B22 (by decide) (by decide) (by decide)
  have O : Ab 1099511627776 1099511627776 := Ab.one40
  have mx := max4_spec (m00 + m11 + m22) m00 m11 m22
  have l00 := H.h00.lo; have u00 := H.h00.hi; have l01 := H.h01.lo; have u01 := H.h01.hi; have l02 := H.h02.lo; have u02 := H.h02.hi
  have l10 := H.h10.lo; have u10 := H.h10.hi; have l11 := H.h11.lo; have u11 := H.h11.hi; have l12 := H.h12.lo; have u12 := H.h12.hi
  have l20 := H.h20.lo; have u20 := H.h20.hi; have l21 := H.h21.lo; have u21 := H.h21.hi; have l22 := H.h22.lo; have u22 := H.h22.hi
  have cyx : y * x = x * y := Int.mul_comm y x
  have czx : z * x = x * z := Int.mul_comm z x
  have czy : z * y = y * z := Int.mul_comm z y
  have cxs : x * s = s * x := Int.mul_comm x s
  have cys : y * s = s * y := Int.mul_comm y s
  have czs : z * s = s * z := Int.mul_comm z s
  have a4 : ∀ a b : Int, 4 * a * b = 4 * (a * b) := fun a b => Int.mul_assoc 4 a b
  by_cases c1 : max4 (m00 + m11 + m22) m00 m11 m22 = m00 + m11 + m22
  · have s1 := sub_near B12 B21 (by decide) (by decide) (by decide)
    have s2 := sub_near B20 B02 (by decide) (by decide) (by decide)
    have s3 := sub_near B01 B10 (by decide) (by decide) (by decide)
    have s4 := add_near O ((B00.add B11).add B22) (by decide) (by decide) (by decide)
    obtain ⟨w0, w1, w2, w3, d0, d1, d2, d3, e, ed, r⟩ := way_math (k := 4 * s) (g0 := m12 - m21) (g1 := m20 - m02) (g2 := m01 - m10) (g3 := 1099511627776 + (m00 + m11 + m22)) U
      ⟨by rw [a4]; omega, by rw [a4]; omega⟩ ⟨by rw [a4]; omega, by rw [a4]; omega⟩ ⟨by rw [a4]; omega, by rw [a4]; omega⟩ ⟨by rw [a4]; omega, by rw [a4]; omega⟩
      ((B12.sub B21).le (by decide)) ((B20.sub B02).le (by decide)) ((B01.sub B10).le (by decide)) ((O.add ((B00.add B11).add B22)).le (by decide)) (Or.inr (Or.inr (Or.inr (by omega))))
    refine ⟨w0, w1, w2, w3, d0, d1, d2, d3, ?_, ed, r⟩
    unfold qFromMatrixS qbyWS
    simp only [t1, t2, if_pos c1, s1, s2, s3, s4, e]
  · by_cases c2 : max4 (m00 + m11 + m22) m00 m11 m22 = m00
    · have s1 := add_near O B00 (by decide) (by decide) (by decide)
      have s2 := sub_near (O.add B00) B11 (by decide) (by decide) (by decide)
      have s3 := sub_near ((O.add B00).sub B11) B22 (by decide) (by decide) (by decide)
      have s4 := add_near B01 B10 (by decide) (by decide) (by decide)
      have s5 := add_near B20 B02 (by decide) (by decide) (by decide)
      have s6 := sub_near B12 B21 (by decide) (by decide) (by decide)
      obtain ⟨w0, w1, w2, w3, d0, d1, d2, d3, e, ed, r⟩ := way_math (k := 4 * x) (g0 := 1099511627776 + m00 - m11 - m22) (g1 := m01 + m10) (g2 := m20 + m02) (g3 := m12 - m21) U
        ⟨by rw [a4]; omega, by rw [a4]; omega⟩ ⟨by rw [a4]; omega, by rw [a4]; omega⟩ ⟨by rw [a4]; omega, by rw [a4]; omega⟩ ⟨by rw [a4, cxs]; omega, by rw [a4, cxs]; omega⟩
        ((((O.add B00).sub B11).sub B22).le (by decide)) ((B01.add B10).le (by decide)) ((B20.add B02).le (by decide)) ((B12.sub B21).le (by decide)) (Or.inl (by omega))
      refine ⟨w0, w1, w2, w3, d0, d1, d2, d3, ?_, ed, r⟩
      unfold qFromMatrixS qbyXS
      simp only [t1, t2, if_neg c1, if_pos c2, s1, s2, s3, s4, s5, s6, e]
    · by_cases c3 : max4 (m00 + m11 + m22) m00 m11 m22 = m11
      · have s1 := add_near B01 B10 (by decide) (by decide) (by decide)
        have s2 := add_near O B11 (by decide) (by decide) (by decide)
        have s3 := sub_near (O.add B11) B22 (by decide) (by decide) (by decide)
        have s4 := sub_near ((O.add B11).sub B22) B00 (by decide) (by decide) (by decide)
        have s5 := add_near B12 B21 (by decide) (by decide) (by decide)
        have s6 := sub_near B20 B02 (by decide) (by decide) (by decide)
        obtain ⟨w0, w1, w2, w3, d0, d1, d2, d3, e, ed, r⟩ := way_math (k := 4 * y) (g0 := m01 + m10) (g1 := 1099511627776 + m11 - m22 - m00) (g2 := m12 + m21) (g3 := m20 - m02) U
          ⟨by rw [a4, cyx]; omega, by rw [a4, cyx]; omega⟩ ⟨by rw [a4]; omega, by rw [a4]; omega⟩ ⟨by rw [a4]; omega, by rw [a4]; omega⟩ ⟨by rw [a4, cys]; omega, by rw [a4, cys]; omega⟩
          ((B01.add B10).le (by decide)) ((((O.add B11).sub B22).sub B00).le (by decide)) ((B12.add B21).le (by decide)) ((B20.sub B02).le (by decide)) (Or.inr (Or.inl (by omega)))
        refine ⟨w0, w1, w2, w3, d0, d1, d2, d3, ?_, ed, r⟩
        unfold qFromMatrixS qbyYS
        simp only [t1, t2, if_neg c1, if_neg c2, if_pos c3, s1, s2, s3, s4, s5, s6, e]
      · have s1 := add_near B20 B02 (by decide) (by decide) (by decide)
        have s2 := add_near B12 B21 (by decide) (by decide) (by decide)
        have s3 := add_near O B22 (by decide) (by decide) (by decide)
        have s4 := sub_near (O.add B22) B00 (by decide) (by decide) (by decide)
        have s5 := sub_near ((O.add B22).sub B00) B11 (by decide) (by decide) (by decide)
        have s6 := sub_near B01 B10 (by decide) (by decide) (by decide)
        obtain ⟨w0, w1, w2, w3, d0, d1, d2, d3, e, ed, r⟩ := way_math (k := 4 * z) (g0 := m20 + m02) (g1 := m12 + m21) (g2 := 1099511627776 + m22 - m00 - m11) (g3 := m01 - m10) U
          ⟨by rw [a4, czx]; omega, by rw [a4, czx]; omega⟩ ⟨by rw [a4, czy]; omega, by rw [a4, czy]; omega⟩ ⟨by rw [a4]; omega, by rw [a4]; omega⟩ ⟨by rw [a4, czs]; omega, by rw [a4, czs]; omega⟩
          ((B20.add B02).le (by decide)) ((B12.add B21).le (by decide)) ((((O.add B22).sub B00).sub B11).le (by decide)) ((B01.sub B10).le (by decide)) (Or.inr (Or.inr (Or.inl (by omega))))
        refine ⟨w0, w1, w2, w3, d0, d1, d2, d3, ?_, ed, r⟩
        unfold qFromMatrixS qbyZS
        simp only [t1, t2, if_neg c1, if_neg c2, if_neg c3, s1, s2, s3, s4, s5, s6, e]
end Go.Proofs.Ytkeijfbpkdelpaa
