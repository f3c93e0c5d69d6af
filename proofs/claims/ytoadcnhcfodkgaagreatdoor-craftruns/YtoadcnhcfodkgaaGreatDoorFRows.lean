/-
  P, D and Q as they lie in rows of 49 cells while they are worked, for the seat YtoadcnhcfodkgaaGreatDoor. No Go text in sight.
-/
import Derived.Test.YtoadcnhcfodkgaaGreatDoorFShape
namespace Go.Proofs.YtoadcnhcfodkgaaGreatDoor

/-- What is there behind k degrees and m orders of the next one. -/
def triN (F : Nat → Nat → Int) (k m : Nat) (i : Nat) : Int := if i % 7 ≤ i / 7 ∧ (i / 7 < k + 1 ∨ (i / 7 = k + 1 ∧ i % 7 < m)) then F (i / 7) (i % 7) else 0
theorem triN_last (F : Nat → Nat → Int) {k m : Nat} (h : m < k + 1) (h6 : k < 6) : triN F k m (k * 7 + m) = F k m := by
  unfold triN
  rw [show (k * 7 + m) / 7 = k by omega, show (k * 7 + m) % 7 = m by omega, if_pos (by omega)]
theorem triN_other (F : Nat → Nat → Int) {k j m : Nat} (h : m < k + 1) (h6 : k < 6) (hj : k = j + 1) : triN F k m (j * 7 + m) = low F k m := by
  subst hj
  unfold triN low
  rw [show (j * 7 + m) / 7 = j by omega, show (j * 7 + m) % 7 = m by omega, show j + 1 - 1 = j by omega]
  by_cases g : m ≤ j
  · rw [if_pos (by omega), if_pos (by omega)]
  · rw [if_neg (by omega), if_neg (by omega)]
theorem low_none (F : Nat → Nat → Int) {k m : Nat} (h : ¬ 1 ≤ k) : low F k m = 0 := if_neg (fun g => h g.1)
theorem triN_put (F : Nat → Nat → Int) {k m : Nat} (h : m < k + 1) (h6 : k < 6) : updF (triN F k m) ((k + 1) * 7 + m) (F (k + 1) m) = triN F k (m + 1) := by
  funext i
  unfold updF triN
  by_cases e : i = (k + 1) * 7 + m
  · rw [if_pos e, e, show ((k + 1) * 7 + m) / 7 = k + 1 by omega, show ((k + 1) * 7 + m) % 7 = m by omega, if_pos (by omega)]
  · rw [if_neg e]
    by_cases q : i % 7 ≤ i / 7 ∧ (i / 7 < k + 1 ∨ (i / 7 = k + 1 ∧ i % 7 < m))
    · rw [if_pos q, if_pos (by omega)]
    · rw [if_neg q, if_neg (by omega)]
theorem triN_same (F : Nat → Nat → Int) {k m : Nat} (h : ¬ 0 < m) (z : F (k + 1) 0 = 0) : triN F k m = triN F k (m + 1) := by
  obtain rfl : m = 0 := by omega
  funext i
  unfold triN
  by_cases e : i = (k + 1) * 7
  · rw [if_neg (by omega), e, show ((k + 1) * 7) / 7 = k + 1 by omega, show ((k + 1) * 7) % 7 = 0 by omega, if_pos (by omega), z]
  · by_cases q : i % 7 ≤ i / 7 ∧ (i / 7 < k + 1 ∨ (i / 7 = k + 1 ∧ i % 7 < 0))
    · rw [if_pos q, if_pos (by omega)]
    · rw [if_neg q, if_neg (by omega)]
theorem triN_even (F : Nat → Nat → Int) {k : Nat} (h6 : k < 6) : triN F k (k + 1) (k * 7 + k) = F k k := by
  unfold triN
  rw [show (k * 7 + k) / 7 = k by omega, show (k * 7 + k) % 7 = k by omega, if_pos (by omega)]
theorem triN_diag (F : Nat → Nat → Int) {k : Nat} (h6 : k < 6) : updF (triN F k (k + 1)) ((k + 1) * 7 + (k + 1)) (F (k + 1) (k + 1)) = triN F (k + 1) 0 := by
  funext i
  unfold updF triN
  by_cases e : i = (k + 1) * 7 + (k + 1)
  · by_cases k6 : k + 1 < 7
    · rw [if_pos e, e, show ((k + 1) * 7 + (k + 1)) / 7 = k + 1 by omega, show ((k + 1) * 7 + (k + 1)) % 7 = k + 1 by omega, if_pos (by omega)]
    · omega
  · rw [if_neg e]
    by_cases q : i % 7 ≤ i / 7 ∧ (i / 7 < k + 1 ∨ (i / 7 = k + 1 ∧ i % 7 < k + 1))
    · rw [if_pos q, if_pos (by omega)]
    · rw [if_neg q, if_neg (by omega)]
theorem triN_one (F : Nat → Nat → Int) {k : Nat} (h : k = 0) {v : Int} (hv : F 1 1 = v) : updF (triN F k (k + 1)) 8 v = triN F (k + 1) 0 := by
  subst h hv
  exact triN_diag F (k := 0) (by decide)
theorem triN_start (F : Nat → Nat → Int) {v : Int} (hv : F 0 0 = v) : updF (fun _ => 0) 0 v = triN F 0 0 := by
  subst hv
  funext i
  unfold updF triN
  by_cases e : i = 0
  · rw [if_pos e, e]; rfl
  · rw [if_neg e, if_neg (by omega)]
theorem triN_zero (F : Nat → Nat → Int) (hv : F 0 0 = 0) : (fun _ => (0 : Int)) = triN F 0 0 := by
  funext i
  unfold triN
  by_cases e : i = 0
  · rw [e]; exact hv.symm
  · rw [if_neg (by omega)]
theorem triN_all (F : Nat → Nat → Int) {n m : Nat} (h : m ≤ n) (h6 : n ≤ 6) : triN F 6 0 (n * 7 + m) = F n m := by
  unfold triN
  rw [show (n * 7 + m) / 7 = n by omega, show (n * 7 + m) % 7 = m by omega, if_pos (by omega)]
/-- What is there of the cosines behind j rounds. -/
def cutF (g : Nat → Int) (j : Nat) : Nat → Int := fun i => if i ≤ j then g i else 0
theorem cutF_put (g : Nat → Int) (j : Nat) : updF (cutF g j) (j + 1) (g (j + 1)) = cutF g (j + 1) := by
  funext i
  unfold updF cutF
  by_cases e : i = j + 1
  · rw [if_pos e, if_pos (by omega), e]
  · rw [if_neg e]
    by_cases q : i ≤ j
    · rw [if_pos q, if_pos (by omega)]
    · rw [if_neg q, if_neg (by omega)]
theorem cutF_next (g : Nat → Int) (j : Nat) : updF (cutF (fun i => g (7 + i)) j) (j + 1) (g (8 + j)) = cutF (fun i => g (7 + i)) (j + 1) := by
  have h := cutF_put (fun i => g (7 + i)) j
  rw [show g (7 + (j + 1)) = g (8 + j) by rw [show 7 + (j + 1) = 8 + j by omega]] at h
  exact h
theorem cutF_at (g : Nat → Int) {i j : Nat} (h : i ≤ j) : cutF g j i = g i := if_pos h
theorem cutF_start (g : Nat → Int) {v : Int} (hv : g 0 = v) : updF (fun _ => 0) 0 v = cutF g 0 := by
  subst hv
  funext i
  unfold updF cutF
  by_cases e : i = 0
  · rw [if_pos e, if_pos (by omega), e]
  · rw [if_neg e, if_neg (by omega)]
theorem cutF_zero (g : Nat → Int) (hv : g 0 = 0) : (fun _ => (0 : Int)) = cutF g 0 := by
  funext i
  unfold cutF
  by_cases e : i ≤ 0
  · rw [if_pos e, show i = 0 by omega, hv]
  · rw [if_neg e]
end Go.Proofs.YtoadcnhcfodkgaaGreatDoor
