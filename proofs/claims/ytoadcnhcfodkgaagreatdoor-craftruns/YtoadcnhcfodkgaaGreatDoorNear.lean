/-
  How near rounded products, quotients and roots are to what they stand for, for the seat YtoadcnhcfodkgaaGreatDoor. No Go text in sight.
-/
import Derived.Test.YtoadcnhcfodkgaaGreatDoorMath
namespace Go.Proofs.YtoadcnhcfodkgaaGreatDoor
open Go.RowKit

theorem sz_signs (a p : Int) : (sz a * sz p = if (decide (a < 0) != decide (p < 0)) = true then -(a * p) else a * p) := by
  unfold sz
  by_cases x : a < 0 <;> by_cases y : p < 0 <;> simp [x, y] <;> grind
/-- A rounded quotient a p / q, of a q above 0: within half of q. -/
theorem partS_near (a p q : Int) (na : numB a = true) (np : numB p = true) (nq : numB q = true) (hq : 0 < q) (hb : sz a * sz p ≤ q * 2305843009213693952) :
    ∃ m, partS false a p q = (m, false) ∧ 2 * (m * q) ≤ 2 * (a * p) + q ∧ 2 * (a * p) ≤ 2 * (m * q) + q ∧ (0 ≤ a * p → 0 ≤ m) := by
  have e := partS_yes (bad := false) (a := a) (p := p) (q := q) (by unfold tk; simp [na, np, nq]) (by simp; omega)
  have sq : sz q = q := sz_nonneg (by omega)
  have nr := rnd_near (sz a * sz p) q (by omega)
  have n0 : 0 ≤ sz a * sz p := (sz_mul_bd na np).1
  have r0 : 0 ≤ rnd (sz a * sz p) q := rnd_nonneg n0 (by omega)
  have sg := sz_signs a p
  rw [sq, decide_eq_false (by omega : ¬ q < 0)] at e
  generalize rnd (sz a * sz p) q = r at *
  generalize sz a * sz p = n at *
  have r1 : r ≤ 4611686018427387904 := by
    by_cases c : r ≤ 4611686018427387904
    · exact c
    · have := Int.mul_le_mul_of_nonneg_right (by omega : (4611686018427387905 : Int) ≤ r) (by omega : 0 ≤ q)
      omega
  rw [show ((decide (a < 0) != decide (p < 0)) != false) = (decide (a < 0) != decide (p < 0)) by simp] at e
  generalize (decide (a < 0) != decide (p < 0)) = s at *
  have e2 : out r s = (if s = true then -r else r, false) := by
    unfold out
    rw [← sgnd_in r s r1, decide_eq_false (by omega)]
  rw [e2] at e
  refine ⟨_, e, ?_⟩
  have rz : r = 0 → r * q = 0 := fun h => by rw [h, Int.zero_mul]
  cases s
  · simp only [Bool.false_eq_true, if_false] at sg ⊢
    refine ⟨by omega, by omega, fun _ => r0⟩
  · simp only [if_true] at sg ⊢
    rw [Int.neg_mul]
    refine ⟨by omega, by omega, fun h => ?_⟩
    have n1 : n = 0 := by omega
    have h2 : r * q ≤ q / 2 := by omega
    by_cases c : r ≤ 0
    · omega
    · have := Int.mul_le_mul_of_nonneg_right (by omega : (1 : Int) ≤ r) (by omega : 0 ≤ q)
      omega
/-- A rounded product. -/
theorem mulS_near (a b : Int) (na : numB a = true) (nb : numB b = true) (hb : sz a * sz b ≤ 2535301200456458802993406410752) :
    ∃ m, mulS false a b = (m, false) ∧ m * 1099511627776 ≤ a * b + 549755813888 ∧ a * b ≤ m * 1099511627776 + 549755813888 ∧ (0 ≤ a * b → 0 ≤ m) := by
  obtain ⟨m, e, h1, h2, h3⟩ := partS_near a b 1099511627776 na nb (by rfl) (by decide) (by omega)
  exact ⟨m, e, by omega, by omega, h3⟩
theorem le_sz (a : Int) : a ≤ sz a ∧ -a ≤ sz a ∧ 0 ≤ sz a := by unfold sz; split <;> omega
theorem sz_le {a A : Int} (h : -A ≤ a ∧ a ≤ A) : sz a ≤ A := by unfold sz; split <;> omega
/-- A rounded product of numbers of up to 2^50. -/
theorem mulS_small (a b : Int) (ha : -1125899906842624 ≤ a ∧ a ≤ 1125899906842624) (hb : -1125899906842624 ≤ b ∧ b ≤ 1125899906842624) :
    ∃ m, mulS false a b = (m, false) ∧ m * 1099511627776 ≤ a * b + 549755813888 ∧ a * b ≤ m * 1099511627776 + 549755813888 ∧ (0 ≤ a * b → 0 ≤ m) := by
  refine mulS_near a b (numB_of (by omega)) (numB_of (by omega)) ?_
  have h1 := sz_le ha
  have h2 := sz_le hb
  have := Int.mul_le_mul h1 h2 (le_sz b).2.2 (by decide)
  omega
/-- A rounded part a / d. -/
theorem partS_one (a d : Int) (na : numB a = true) (hd : 0 < d ∧ d ≤ 4611686018427387904) (hb : sz a ≤ 2305843009213693952) :
    ∃ m, partS false a 1 d = (m, false) ∧ 2 * (m * d) ≤ 2 * a + d ∧ 2 * a ≤ 2 * (m * d) + d ∧ (0 ≤ a → 0 ≤ m) := by
  obtain ⟨m, e, h1, h2, h3⟩ := partS_near a 1 d na (by rfl) (numB_of (by omega)) hd.1 (by
    rw [show sz 1 = 1 by rfl]
    have := Int.mul_le_mul_of_nonneg_right (by omega : (1 : Int) ≤ d) (by decide : (0 : Int) ≤ 2305843009213693952)
    omega)
  rw [Int.mul_one] at h1 h2 h3
  exact ⟨m, e, h1, h2, h3⟩
/-- A rounded quotient a / b, of 0 to 1. -/
theorem divS_near (a b : Int) (ha : 0 ≤ a) (hab : a ≤ b) (hb : 0 < b ∧ b ≤ 4611686018427387904) :
    ∃ m, divS false a b = (m, false) ∧ 2 * (m * b) ≤ 2 * (a * 1099511627776) + b ∧ 2 * (a * 1099511627776) ≤ 2 * (m * b) + b ∧ 0 ≤ m ∧ m ≤ 1099511627776 := by
  obtain ⟨m, e, h1, h2, h3⟩ := partS_near a 1099511627776 b (numB_of (by omega)) (by rfl) (numB_of (by omega)) hb.1 (by
    rw [sz_nonneg ha, show sz 1099511627776 = 1099511627776 by rfl]
    omega)
  refine ⟨m, e, h1, h2, h3 (by omega), ?_⟩
  by_cases c : m ≤ 1099511627776
  · exact c
  · have := Int.mul_le_mul_of_nonneg_right (by omega : (1099511627777 : Int) ≤ m) (by omega : 0 ≤ b)
    omega
theorem sqrtS_near (a : Int) (h : 0 ≤ a ∧ a ≤ 4611686018427387904) :
    ∃ m, sqrtS false a = (m, false) ∧ 0 ≤ m ∧ m * m ≤ a * 1099511627776 ∧ a * 1099511627776 < (m + 1) * (m + 1) ∧ m ≤ 4611686018427387904 := by
  have s := isq_spec (a * 1099511627776) (by omega) (by omega)
  have e := sqrtS_yes (bad := false) (a := a) (by unfold tk; simp [numB_of (n := a) (by omega)]) h.1
  generalize isq (a * 1099511627776) = r at *
  have r1 : r ≤ 4611686018427387904 := by
    by_cases c : r ≤ 4611686018427387904
    · exact c
    · have := sq_mono (by omega : (0 : Int) ≤ 4611686018427387905) (by omega : 4611686018427387905 ≤ r)
      omega
  refine ⟨r, ?_, s.1, s.2.1, s.2.2, r1⟩
  rw [e]
  unfold out
  rw [← sgnd_in r false r1, decide_eq_false (by omega)]
  simp
theorem addS_good (a b : Int) (ha : numB a = true) (hb : numB b = true) (h : numB (a + b) = true) : addS false a b = (a + b, false) := by
  rw [addS_yes (by unfold tk; simp [ha, hb]), gv_yes h]
theorem subS_good (a b : Int) (ha : numB a = true) (hb : numB b = true) (h : numB (a - b) = true) : subS false a b = (a - b, false) := by
  rw [subS_yes (by unfold tk; simp [ha, hb]), gv_yes h]
end Go.Proofs.YtoadcnhcfodkgaaGreatDoor
