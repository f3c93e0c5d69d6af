/-
  The sine and the cosine of a point's angle are the point's, at the distance 1, for the seat Ytndimdodendonab. No Go text in sight.
-/
import Derived.Test.YtndimdodendonabTThA
import Derived.Test.YtndimdodendonabTAtM
import Derived.Test.YtndimdodendonabTSumM
namespace Go.Proofs.Ytndimdodendonab

theorem unit_pC (x : Int) (hx : -1727108826179 ≤ x ∧ x ≤ 1727108826179) :
    -(87 * (kk * kk)) ≤ (kk * kk - (pC x * pC x + pS x * pS x)) * 1099511627776 ∧ (kk * kk - (pC x * pC x + pS x * pS x)) * 1099511627776 ≤ 87 * (kk * kk) := by
  have e := sum_C x (-x) hx (by omega)
  rw [show x + -x = 0 by omega, pC_zero, pC_neg, pS_neg] at e
  generalize pS x = P at *
  generalize pC x = Q at *
  rw [show Q * Q - P * -P = Q * Q + P * P by grind] at e
  exact e
theorem near1 (x : Int) (hx : -1727108826179 ≤ x ∧ x ≤ 1727108826179) : (-(1025 * kk) ≤ 1024 * pS x ∧ 1024 * pS x ≤ 1025 * kk) ∧ (-(1025 * kk) ≤ 1024 * pC x ∧ 1024 * pC x ≤ 1025 * kk) := by
  have u := unit_pC x hx
  refine ⟨unit_bd kk_pos u.1, unit_bd kk_pos (Q := pS x) ?_⟩
  rw [Int.add_comm]
  exact u.1
theorem lC_head : lC = kk :: lC.tail := by decide +kernel
theorem lC_rest : 1160000000000 * evp (absl lC.tail) 1160000000000 * 4 ≤ 3 * kk := by decide +kernel
theorem pC_low (w : Int) (h : 0 ≤ w ∧ w ≤ 1160000000000) : kk ≤ 4 * pC w := by
  have e : pC w = kk + w * evp lC.tail w := by
    unfold pC
    rw [lC_head]
    rfl
  have a := evp_abs lC.tail w 1160000000000 (by omega)
  have m := mulbd (x := w) (a := 1160000000000) (by omega) a
  have n := lC_rest
  rw [e]
  omega
theorem root_abs (t m s : Int) (m1 : m * 1099511627776 ≤ t * t + 549755813888) (m2 : t * t ≤ m * 1099511627776 + 549755813888) (mt : m ≤ 1099511627776) (s0 : 1099511627776 ≤ s) (s1 : s * s ≤ (1099511627776 + m) * 1099511627776) (s2 : (1099511627776 + m) * 1099511627776 < (s + 1) * (s + 1)) :
    10000 * s ≤ 14143 * 1099511627776 ∧ -(9 * 1099511627776) ≤ 2 * (s * s - 1208925819614629174706176 - t * t) ∧ 2 * (s * s - 1208925819614629174706176 - t * t) ≤ 9 * 1099511627776 := by
  have a : 10000 * s ≤ 14143 * 1099511627776 := by
    by_cases c : 10000 * s ≤ 14143 * 1099511627776
    · exact c
    · have := sq_mono (by omega : (0 : Int) ≤ 14143 * 1099511627776) (by omega : 14143 * 1099511627776 ≤ 10000 * s)
      rw [show 10000 * s * (10000 * s) = 100000000 * (s * s) by grind] at this
      omega
  have e : (s + 1) * (s + 1) = s * s + 2 * s + 1 := by grind
  rw [e] at s2
  refine ⟨a, by omega, by omega⟩
/-- The angle of a tangent of 0 to 1. -/
theorem arc_dir (t : Int) (h : 0 ≤ t ∧ t ≤ 1099511627776) : ∃ z, arcW (halvN 2 (t, false)) = (z, false) ∧ 0 ≤ z ∧ z ≤ 290000000000 ∧ -(556 * kk) ≤ 1099511627776 * pS (4 * z) - t * pC (4 * z) ∧ 1099511627776 * pS (4 * z) - t * pC (4 * z) ≤ 556 * kk := by
  obtain ⟨t1, t2, u, v, z, e1, e2, eu, ev, ez, _, ew, a1, a2, b1, b2, u0, u1, v1, v2, z1, z2, u2, u3, _, _⟩ := arc_good t h
  obtain ⟨m, s, t', _, _, f1, m0, mt, m1, m2, s0, _, s1, s2, _, _, d1, d2⟩ := halv_good t h
  obtain ⟨m', s', t'', _, _, f2, m0', mt', m1', m2', s0', _, s1', s2', _, _, d1', d2'⟩ := halv_good t1 (by omega)
  rw [e1] at f1
  rw [e2] at f2
  obtain rfl : t1 = t' := congrArg Prod.fst f1
  obtain rfl : t2 = t'' := congrArg Prod.fst f2
  obtain ⟨z0, zb, D1, D2⟩ := arc_tan t2 u v z ⟨b1, by omega⟩ ⟨u0, u1⟩ u2 u3 ev ez z1 z2 ⟨v1, v2⟩
  refine ⟨z, ew, z0, zb, ?_⟩
  have r1 := root_abs t1 m' s' m1' m2' mt' s0' s1' s2'
  have r0 := root_abs t m s m1 m2 mt s0 s1 s2
  have n1 := near1 z (by omega)
  have n2 := near1 (z + z) (by omega)
  have x1 := dbl_abs kk (pS z) (pC z) (pS (z + z)) (pC (z + z)) t1 t2 s' 7 kk_pos n1.1 n1.2 (by omega) ⟨s0', r1.1⟩ r1.2 (by constructor <;> omega) ⟨D1, D2⟩ (sum_S z z (by omega) (by omega)) (sum_C z z (by omega) (by omega))
  have kp := kk_pos
  have x2 := dbl_abs kk (pS (z + z)) (pC (z + z)) (pS (z + z + (z + z))) (pC (z + z + (z + z))) t t1 s 129 kk_pos n2.1 n2.2 h ⟨s0, r0.1⟩ r0.2 (by constructor <;> omega) (by constructor <;> omega) (sum_S (z + z) (z + z) (by omega) (by omega)) (sum_C (z + z) (z + z) (by omega) (by omega))
  rw [show z + z + (z + z) = 4 * z by omega] at x2
  constructor <;> omega

/-! ### Quarters -/
/-- s is near T. -/
def Cl (s T : Int) : Prop := ∃ P, Nr kk s P ∧ -(93 * kk) ≤ (P - T) * 1099511627776 ∧ (P - T) * 1099511627776 ≤ 93 * kk
theorem Cl.neg {s T : Int} (h : Cl s T) : Cl (-s) (-T) := by
  obtain ⟨P, n, a, b⟩ := h
  exact ⟨-P, n.neg, by omega, by omega⟩
theorem Cl.self {s T : Int} (h : Nr kk s T) : Cl s T := by
  have := kk_pos
  exact ⟨T, h, by omega, by omega⟩
theorem flip_near (w : Int) (hw : 0 ≤ w ∧ w ≤ 1727108826179) :
    (-(93 * kk) ≤ (pS (1727108826179 - w) - pC w) * 1099511627776 ∧ (pS (1727108826179 - w) - pC w) * 1099511627776 ≤ 93 * kk) ∧
    (-(93 * kk) ≤ (pC (1727108826179 - w) - pS w) * 1099511627776 ∧ (pC (1727108826179 - w) - pS w) * 1099511627776 ≤ 93 * kk) := by
  have a := sum_S 1727108826179 (-w) (by omega) (by omega)
  have b := sum_C 1727108826179 (-w) (by omega) (by omega)
  rw [show 1727108826179 + -w = 1727108826179 - w by omega, pC_neg, pS_neg] at a b
  have c1 := pS_bd w (by omega)
  have c2 := pC_bd w (by omega)
  have d1 := pS_h
  have d2 := pC_h
  have f1 := mulbd (x := pS w) (y := pC 1727108826179 * 1099511627776) (a := 3 * kk) (b := kk) c1 d2
  have f2 := mulbd (x := pC w) (y := (pS 1727108826179 - kk) * 1099511627776) (a := 3 * kk) (b := kk) c2 d1
  have f3 := mulbd (x := pC w) (y := pC 1727108826179 * 1099511627776) (a := 3 * kk) (b := kk) c2 d2
  have f4 := mulbd (x := pS w) (y := (pS 1727108826179 - kk) * 1099511627776) (a := 3 * kk) (b := kk) c1 d1
  have kp := kk_pos
  rw [show 3 * kk * kk = 3 * (kk * kk) by grind] at f1 f2 f3 f4
  clear c1 c2 d1 d2
  generalize pS 1727108826179 = sh at *
  generalize pC 1727108826179 = ch at *
  generalize pS (1727108826179 - w) = P at *
  generalize pC (1727108826179 - w) = Q at *
  generalize pS w = p at *
  generalize pC w = q at *
  generalize kk = K at *
  have K2 := sq_nonneg K
  have g1 : K * ((P - q) * 1099511627776) = (P * K - (sh * q + ch * -p)) * 1099511627776 + q * ((sh - K) * 1099511627776) - p * (ch * 1099511627776) := by grind
  have g2 : K * ((Q - p) * 1099511627776) = (Q * K - (ch * q - sh * -p)) * 1099511627776 + q * (ch * 1099511627776) + p * ((sh - K) * 1099511627776) := by grind
  have r : K * (93 * K) = 93 * (K * K) := by grind
  refine ⟨⟨?_, ?_⟩, ⟨?_, ?_⟩⟩
  · refine Int.le_of_mul_le_mul_left (a := K) ?_ kp
    rw [g1, Int.mul_neg, r]; omega
  · refine Int.le_of_mul_le_mul_left (a := K) ?_ kp
    rw [g1, r]; omega
  · refine Int.le_of_mul_le_mul_left (a := K) ?_ kp
    rw [g2, Int.mul_neg, r]; omega
  · refine Int.le_of_mul_le_mul_left (a := K) ?_ kp
    rw [g2, r]; omega
theorem Cl.flipS {s w : Int} (hw : 0 ≤ w ∧ w ≤ 1727108826179) (h : Nr kk s (pS (1727108826179 - w))) : Cl s (pC w) := ⟨_, h, (flip_near w hw).1⟩
theorem Cl.flipC {s w : Int} (hw : 0 ≤ w ∧ w ≤ 1727108826179) (h : Nr kk s (pC (1727108826179 - w))) : Cl s (pS w) := ⟨_, h, (flip_near w hw).2⟩
theorem pS_zero : pS 0 = 0 := by decide +kernel
theorem Cl.negS0 {s : Int} (h : Nr kk s (pS 0)) : Cl (-s) (pS 0) := by
  have := (Cl.self h).neg
  rw [pS_zero] at this ⊢
  exact this
theorem Cl.selfS0 {s : Int} (h : Nr kk s (pS 0)) : Cl s (-pS 0) := by
  have := Cl.self h
  rw [pS_zero] at this ⊢
  exact this
/-- An angle that lies in a quarter, and what its sine and its cosine are near. -/
theorem quad (a w : Int) (ha : numB a = true) (hw : 0 ≤ w ∧ w ≤ 1160000000000) : ∃ s c, sinA false a = (s, false) ∧ cosA false a = (c, false) ∧ (-2199023255552 ≤ s ∧ s ≤ 2199023255552) ∧ (-2199023255552 ≤ c ∧ c ≤ 2199023255552) ∧
    (a = w → Cl s (pS w) ∧ Cl c (pC w)) ∧ (a = 1727108826179 - w → Cl s (pC w) ∧ Cl c (pS w)) ∧ (a = 3454217652358 - w → Cl s (pS w) ∧ Cl c (-pC w)) ∧ (a = 3454217652358 - (1727108826179 - w) → Cl s (pC w) ∧ Cl c (-pS w)) ∧
    (a = -w → Cl s (-pS w) ∧ Cl c (pC w)) ∧ (a = -(1727108826179 - w) → Cl s (-pC w) ∧ Cl c (pS w)) ∧ (a = -(3454217652358 - w) → Cl s (-pS w) ∧ Cl c (-pC w)) ∧ (a = -(3454217652358 - (1727108826179 - w)) → Cl s (-pC w) ∧ Cl c (-pS w)) := by
  obtain ⟨k, t, S, C, k0, k1, t0, t1, e, nS, nC, es, ec⟩ := angle a ha
  have b := sel_bd (k := k) (S := S) (C := C) ⟨nS.bl, nS.bh⟩ ⟨nC.bl, nC.bh⟩
  have hw2 : 0 ≤ w ∧ w ≤ 1727108826179 := by omega
  refine ⟨_, _, es, ec, b.1, b.2, ?_, ?_, ?_, ?_, ?_, ?_, ?_, ?_⟩
  · intro h
    obtain ⟨rfl, rfl⟩ : k = 0 ∧ t = w := by omega
    exact ⟨Cl.self nS, Cl.self nC⟩
  · intro h
    by_cases w0 : w = 0
    · subst w0
      obtain ⟨rfl, rfl⟩ : k = 1 ∧ t = 0 := by omega
      exact ⟨Cl.self nC, Cl.negS0 nS⟩
    · obtain ⟨rfl, rfl⟩ : k = 0 ∧ t = 1727108826179 - w := by omega
      exact ⟨Cl.flipS hw2 nS, Cl.flipC hw2 nC⟩
  · intro h
    by_cases w0 : w = 0
    · subst w0
      obtain ⟨rfl, rfl⟩ : k = 2 ∧ t = 0 := by omega
      exact ⟨Cl.negS0 nS, (Cl.self nC).neg⟩
    · obtain ⟨rfl, rfl⟩ : k = 1 ∧ t = 1727108826179 - w := by omega
      exact ⟨Cl.flipC hw2 nC, (Cl.flipS hw2 nS).neg⟩
  · intro h
    obtain ⟨rfl, rfl⟩ : k = 1 ∧ t = w := by omega
    exact ⟨Cl.self nC, (Cl.self nS).neg⟩
  · intro h
    by_cases w0 : w = 0
    · subst w0
      obtain ⟨rfl, rfl⟩ : k = 0 ∧ t = 0 := by omega
      exact ⟨Cl.selfS0 nS, Cl.self nC⟩
    · obtain ⟨rfl, rfl⟩ : k = 3 ∧ t = 1727108826179 - w := by omega
      exact ⟨(Cl.flipC hw2 nC).neg, Cl.flipS hw2 nS⟩
  · intro h
    obtain ⟨rfl, rfl⟩ : k = 3 ∧ t = w := by omega
    exact ⟨(Cl.self nC).neg, Cl.self nS⟩
  · intro h
    obtain ⟨rfl, rfl⟩ : k = 2 ∧ t = w := by omega
    exact ⟨(Cl.self nS).neg, (Cl.self nC).neg⟩
  · intro h
    by_cases w0 : w = 0
    · subst w0
      obtain ⟨rfl, rfl⟩ : k = 3 ∧ t = 0 := by omega
      exact ⟨(Cl.self nC).neg, Cl.selfS0 nS⟩
    · obtain ⟨rfl, rfl⟩ : k = 2 ∧ t = 1727108826179 - w := by omega
      exact ⟨(Cl.flipS hw2 nS).neg, (Cl.flipC hw2 nC).neg⟩
/-- Y is near T, at the distance 1. -/
def Fa (T Y n : Int) : Prop := -(700 * (kk * n)) ≤ 1099511627776 * (T * n - Y * kk) ∧ 1099511627776 * (T * n - Y * kk) ≤ 700 * (kk * n)
theorem Fa.neg {T Y n : Int} (h : Fa T Y n) : Fa (-T) (-Y) n := by
  unfold Fa at h ⊢
  rw [show -T * n - -Y * kk = -(T * n - Y * kk) by grind]
  omega
theorem end_abs {s T Y n v : Int} (hn : 0 < n) (h : Cl s T) (f : Fa T Y n) (d1 : 2 * (v * n) ≤ 2 * (Y * 1099511627776) + n) (d2 : 2 * (Y * 1099511627776) ≤ 2 * (v * n) + n) : s - v ≤ 1024 ∧ -1024 ≤ s - v := by
  obtain ⟨P, nr, a1, a2⟩ := h
  obtain ⟨f1, f2⟩ := f
  obtain ⟨n1, n2, _, _⟩ := nr
  have kp := kk_pos
  generalize kk = K at *
  have q1 := mulbd (x := n) (y := s * K - 1099511627776 * P) (a := n) (b := 3 * K) (by omega) (by omega)
  have q2 := mulbd (x := n) (y := (P - T) * 1099511627776) (a := n) (b := 93 * K) (by omega) (by omega)
  have q3 := mulbd (x := K) (y := 2 * (Y * 1099511627776 - v * n)) (a := K) (b := n) (by omega) (by omega)
  have key : 2 * ((s - v) * (K * n)) = 2 * (n * (s * K - 1099511627776 * P)) + 2 * (n * ((P - T) * 1099511627776)) + 2 * (1099511627776 * (T * n - Y * K)) + K * (2 * (Y * 1099511627776 - v * n)) := by grind
  have Kn := Int.mul_pos kp hn
  rw [show n * (3 * K) = 3 * (K * n) by grind] at q1
  rw [show n * (93 * K) = 93 * (K * n) by grind] at q2
  constructor
  · refine Int.le_of_mul_le_mul_right (a := K * n) ?_ Kn
    omega
  · refine Int.le_of_mul_le_mul_right (a := K * n) ?_ Kn
    omega
end Go.Proofs.Ytndimdodendonab
