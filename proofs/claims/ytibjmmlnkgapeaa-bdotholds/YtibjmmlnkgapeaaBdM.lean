/-
  A Rate behind one field more: it lies between the Rate and what was seen, and what was seen is near the plain quotient, for the seat Ytibjmmlnkgapeaa. No Go text in sight.
-/
import Derived.Test.YtibjmmlnkgapeaaNear
namespace Go.Proofs.Ytibjmmlnkgapeaa
open Go.RowKit

theorem bd_bd {x a b : Int} (ha : 0 ≤ a) (h : a ≤ b) (hx : 0 ≤ x) : x * a ≤ x * b ∧ 0 ≤ x * a := ⟨Int.mul_le_mul_of_nonneg_left h hx, Int.mul_nonneg hx ha⟩
/-- A part p / q of D, rounded, where p is at most q: it lies between 0 and D. -/
theorem part_between (D p q : Int) (hD : -2305843009213693952 ≤ D ∧ D ≤ 2305843009213693952) (hp : 0 ≤ p) (hpq : p ≤ q) (hq : 0 < q ∧ q ≤ 20000) : ∃ m, partS false D p q = (m, false) ∧ ((0 ≤ D ∧ 0 ≤ m ∧ m ≤ D) ∨ (D ≤ 0 ∧ D ≤ m ∧ m ≤ 0)) := by
  obtain ⟨m, e, h1, h2, _⟩ := partS_near D p q (numB_of (by omega)) (numB_of (by omega)) (numB_of (by omega)) hq.1 (by
    rw [show sz p = p by unfold sz; rw [if_neg (by omega)]]
    have s := sz_le (A := 2305843009213693952) (a := D) (by omega)
    have s0 := (le_sz D).2.2
    have := bd_bd hp hpq s0
    have := Int.mul_le_mul_of_nonneg_right s (by omega : 0 ≤ q)
    omega)
  refine ⟨m, e, ?_⟩
  by_cases c : 0 ≤ D
  · left
    have b := bd_bd hp hpq c
    refine ⟨c, ?_, ?_⟩
    · by_cases k : 0 ≤ m
      · exact k
      · have := Int.mul_le_mul_of_nonneg_right (by omega : m ≤ -1) (by omega : 0 ≤ q)
        omega
    · by_cases k : m ≤ D
      · exact k
      · have := Int.mul_le_mul_of_nonneg_right (by omega : D + 1 ≤ m) (by omega : 0 ≤ q)
        rw [Int.add_mul] at this
        omega
  · right
    have b := bd_bd (x := -D) hp hpq (by omega)
    rw [Int.neg_mul, Int.neg_mul] at b
    refine ⟨by omega, ?_, ?_⟩
    · by_cases k : D ≤ m
      · exact k
      · have := Int.mul_le_mul_of_nonneg_right (by omega : m ≤ D - 1) (by omega : 0 ≤ q)
        rw [Int.sub_mul] at this
        omega
    · by_cases k : m ≤ 0
      · exact k
      · have := Int.mul_le_mul_of_nonneg_right (by omega : (1 : Int) ≤ m) (by omega : 0 ≤ q)
        omega
/-- A Rate's part behind one field more. -/
theorem rate_next (R r t M : Int) (hM : 0 ≤ M ∧ M ≤ 1152921504606846976) (hR : -M ≤ R ∧ R ≤ M) (hr : -M ≤ r ∧ r ≤ M) (ht : 10 ≤ t ∧ t ≤ 10000) :
    ∃ m, subS false r R = (r - R, false) ∧ partS false (r - R) t (t + 2000) = (m, false) ∧ addS false R m = (R + m, false) ∧ -M ≤ R + m ∧ R + m ≤ M := by
  obtain ⟨m, e, h⟩ := part_between (r - R) t (t + 2000) (by omega) (by omega) (by omega) (by omega)
  refine ⟨m, subS_good r R (numB_of (by omega)) (numB_of (by omega)) (numB_of (by omega)), e, addS_good R m (numB_of (by omega)) (numB_of (by omega)) (numB_of (by omega)), by omega, by omega⟩
/-- What is seen to change in a second, and the plain quotient. -/
theorem seen_near (d t : Int) (hd : -439804651110400 ≤ d ∧ d ≤ 439804651110400) (ht : 10 ≤ t ∧ t ≤ 10000) : ∃ r, partS false d 1000 t = (r, false) ∧ -(d.tdiv t * 1000) - 1000 ≤ -r ∧ -r ≤ -(d.tdiv t * 1000) + 1000 ∧ -43980465111040001 ≤ r ∧ r ≤ 43980465111040001 := by
  obtain ⟨m, e, h1, h2, _⟩ := partS_near d 1000 t (numB_of (by omega)) (by rfl) (numB_of (by omega)) (by omega) (by
    rw [show sz 1000 = 1000 by rfl]
    have s := sz_le (A := 439804651110400) (a := d) (by omega)
    omega)
  refine ⟨m, e, ?_⟩
  have hq := Int.mul_tdiv_add_tmod d t
  have a1 : -t < d.tmod t ∧ d.tmod t < t := by
    have h3 := Int.tmod_lt_of_pos d (by omega : 0 < t)
    have h4 := Int.neg_le_neg (Int.le_of_lt (Int.tmod_lt_of_pos (-d) (by omega : 0 < t)))
    rw [Int.neg_tmod] at h4
    have h5 := Int.tmod_lt_of_pos (-d) (by omega : 0 < t)
    rw [Int.neg_tmod] at h5
    omega
  generalize d.tdiv t = Q at *
  generalize d.tmod t = T at *
  have e2 : t * Q * 1000 = Q * 1000 * t := by grind
  have e3 : d * 1000 = Q * 1000 * t + T * 1000 := by rw [← hq, Int.add_mul, e2]
  rw [e3] at h1 h2
  have e4 : ∀ k : Int, (Q * 1000 + k) * t = Q * 1000 * t + k * t := fun k => Int.add_mul _ _ _
  refine ⟨?_, ?_, ?_, ?_⟩
  · by_cases k : m ≤ Q * 1000 + 1000
    · omega
    · have := Int.mul_le_mul_of_nonneg_right (by omega : Q * 1000 + 1001 ≤ m) (by omega : 0 ≤ t)
      rw [e4] at this
      omega
  · by_cases k : Q * 1000 - 1000 ≤ m
    · omega
    · have := Int.mul_le_mul_of_nonneg_right (by omega : m ≤ Q * 1000 + -1001) (by omega : 0 ≤ t)
      rw [e4] at this
      omega
  · rw [← e3] at h1 h2
    by_cases k : -43980465111040001 ≤ m
    · exact k
    · have := Int.mul_le_mul_of_nonneg_right (by omega : m ≤ -43980465111040002) (by omega : 0 ≤ t)
      omega
  · rw [← e3] at h1 h2
    by_cases k : m ≤ 43980465111040001
    · exact k
    · have := Int.mul_le_mul_of_nonneg_right (by omega : (43980465111040002 : Int) ≤ m) (by omega : 0 ≤ t)
      omega
end Go.Proofs.Ytibjmmlnkgapeaa
