/-
  All that Place works, step by step, of right elements at right ticks: nothing goes bad, for the seat YtoadcnhcfodkgaaGreatDoor. No Go text in sight.
-/
import Derived.Test.YtoadcnhcfodkgaaGreatDoorOrbB
import Derived.Test.YtoadcnhcfodkgaaGreatDoorCMath
namespace Go.Proofs.YtoadcnhcfodkgaaGreatDoor

theorem mul_x {a b K L B : Int} (ha : Ab a K) (hb : Ab b L) (h : K * L ≤ 2535301200456458802993406410752) (hK : K ≤ 4611686018427387904) (hL : L ≤ 4611686018427387904) (hB : 2 * (K * L) + 1099511627776 ≤ 2 * (B * 1099511627776)) : ∃ m, mulS false a b = (m, false) ∧ Ab (2 * (m * 1099511627776 - a * b)) 1099511627776 ∧ Ab m B := by
  obtain ⟨m, e, h1, h2, _⟩ := mulS_near a b (ha.numB hK) (hb.numB hL) (by
    have s1 := sz_le ⟨ha.lo, ha.hi⟩
    have s2 := sz_le ⟨hb.lo, hb.hi⟩
    have k0 : 0 ≤ K := by have := ha.lo; have := ha.hi; omega
    have := Int.mul_le_mul s1 s2 (le_sz b).2.2 k0
    omega)
  have p := ha.mul hb
  have p1 := p.lo; have p2 := p.hi
  exact ⟨m, e, ⟨by omega, by omega⟩, ⟨by omega, by omega⟩⟩
theorem div_x {a d K lo hi B : Int} (ha : Ab a K) (h1 : lo ≤ d) (h2 : d ≤ hi) (hl : 0 < lo) (hK : K ≤ 4611686018427387904) (hh : hi ≤ 4611686018427387904) (h : K * 1099511627776 ≤ lo * 2305843009213693952) (hB : 2 * (K * 1099511627776) < (2 * B + 1) * lo) (B0 : 0 ≤ B) :
    ∃ m, divS false a d = (m, false) ∧ Ab (2 * (m * d - a * 1099511627776)) d ∧ Ab m B := by
  obtain ⟨m, e, d1, d2, _⟩ := partS_near a 1099511627776 d (ha.numB hK) (by rfl) (numB_of ⟨by omega, by omega⟩) (by omega) (by
    rw [show sz 1099511627776 = 1099511627776 by rfl]
    have := sz_le ⟨ha.lo, ha.hi⟩
    have := Int.mul_le_mul_of_nonneg_right h1 (show (0 : Int) ≤ 2305843009213693952 by decide)
    omega)
  have a1 := ha.lo; have a2 := ha.hi
  refine ⟨m, e, ⟨by omega, by omega⟩, ⟨?_, ?_⟩⟩
  · apply Classical.byContradiction
    intro g
    have q := Int.mul_le_mul (show 2 * B + 1 ≤ -2 * m - 1 by omega) h1 (by omega) (by omega)
    have e : (-2 * m - 1) * d = -(2 * (m * d)) - d := by grind
    rw [e] at q
    omega
  · apply Classical.byContradiction
    intro g
    have q := Int.mul_le_mul (show 2 * B + 1 ≤ 2 * m - 1 by omega) h1 (by omega) (by omega)
    have e : (2 * m - 1) * d = 2 * (m * d) - d := by grind
    rw [e] at q
    omega
theorem sqrt_x {a K B : Int} (h0 : 0 ≤ a) (hK : a ≤ K) (h : K ≤ 4611686018427387904) (hB : K * 1099511627776 < (B + 1) * (B + 1)) (B0 : 0 ≤ B) (hB' : B ≤ 4611686018427387904) :
    ∃ r, sqrtS false a = (r, false) ∧ 0 ≤ r ∧ r ≤ B ∧ r * r ≤ a * 1099511627776 ∧ a * 1099511627776 < (r + 1) * (r + 1) := by
  have hs := isq_spec (a * 1099511627776) (by omega) (by omega)
  have hb : isq (a * 1099511627776) ≤ B := by
    apply Classical.byContradiction
    intro g
    have := Int.mul_le_mul (show B + 1 ≤ isq (a * 1099511627776) by omega) (show B + 1 ≤ isq (a * 1099511627776) by omega) (by omega) (by omega)
    omega
  refine ⟨isq (a * 1099511627776), ?_, hs.1, hb, hs.2.1, hs.2.2⟩
  rw [sqrtS_yes (by simp [tk, show numB a = true from numB_of ⟨by omega, by omega⟩]) h0]
  unfold out sgnd
  rw [decide_eq_false (by omega), if_pos (by omega)]
  simp only [Bool.false_eq_true, if_false]
theorem mul_get {a b m : Int} (h : mulS false a b = (m, false)) : Ab (2 * (m * 1099511627776 - a * b)) 1099511627776 := by
  cases c : tk false [a, b]
  · rw [mulS_no c] at h; simp at h
  · rw [mulS_yes c] at h
    unfold out sgnd at h
    simp only [Prod.mk.injEq, decide_eq_false_iff_not] at h
    obtain ⟨h1, h2⟩ := h
    rw [if_pos (by omega)] at h1
    have e : sz a * sz b = a * b ∧ (decide (a < 0) != decide (b < 0)) = false ∨ sz a * sz b = -(a * b) ∧ (decide (a < 0) != decide (b < 0)) = true := by
      unfold sz
      by_cases h3 : a < 0 <;> by_cases h4 : b < 0 <;> simp [h3, h4, Int.neg_mul, Int.mul_neg]
    rcases e with ⟨e1, e2⟩ | ⟨e1, e2⟩
    · rw [e1] at h1 h2
      rw [e2] at h1
      simp at h1
      subst h1
      exact ⟨by omega, by omega⟩
    · rw [e1] at h1 h2
      rw [e2] at h1
      simp at h1
      subst h1
      exact ⟨by omega, by omega⟩
end Go.Proofs.YtoadcnhcfodkgaaGreatDoor
