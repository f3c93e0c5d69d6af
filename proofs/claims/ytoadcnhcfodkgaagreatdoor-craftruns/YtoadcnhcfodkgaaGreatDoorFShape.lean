/-
  P, D and Q as they lie in maps while they are worked, for the seat YtoadcnhcfodkgaaGreatDoor. No Go text in sight.
-/
import Derived.Test.YtoadcnhcfodkgaaGreatDoorFStep
import Derived.Test.YtoadcnhcfodkgaaGreatDoorMapR
namespace Go.Proofs.YtoadcnhcfodkgaaGreatDoor

/-- What is there behind k degrees and m orders of the next one. -/
def triM (F : Nat → Nat → Int) (k m : Nat) : Int → Int → Int := fun a b => if 0 ≤ a ∧ 0 ≤ b ∧ b ≤ a ∧ (a < (k : Int) + 1 ∨ (a = (k : Int) + 1 ∧ b < (m : Int)) ∨ (a = 1 ∧ b = 1)) then F a.toNat b.toNat else 0
def low (F : Nat → Nat → Int) (k m : Nat) : Int := if 1 ≤ k ∧ m + 1 ≤ k then F (k - 1) m else 0
theorem triM_last (F : Nat → Nat → Int) {k m : Nat} (h : m < k + 1) : triM F k m ((k : Int) + 1 - 1) (m : Int) = F k m := by
  unfold triM
  rw [if_pos ⟨by omega, by omega, by omega, by omega⟩, show ((k : Int) + 1 - 1).toNat = k by omega, Int.toNat_natCast]
theorem triM_other (F : Nat → Nat → Int) (k m : Nat) : triM F k m ((k : Int) + 1 - 2) (m : Int) = low F k m := by
  unfold triM low
  by_cases h : 1 ≤ k ∧ m + 1 ≤ k
  · rw [if_pos h, if_pos ⟨by omega, by omega, by omega, by omega⟩, show ((k : Int) + 1 - 2).toNat = k - 1 by omega, Int.toNat_natCast]
  · rw [if_neg h, if_neg (by omega)]
theorem triM_even (F : Nat → Nat → Int) (k : Nat) : triM F k (k + 1) ((k : Int) + 1 - 1) ((k : Int) + 1 - 1) = F k k := by
  unfold triM
  rw [if_pos ⟨by omega, by omega, by omega, by omega⟩, show ((k : Int) + 1 - 1).toNat = k by omega]
theorem triM_put (F : Nat → Nat → Int) {k m : Nat} (h : m < k + 1) (a b : Int) : putM (triM F k m) ((k : Int) + 1) (m : Int) (F (k + 1) m) a b = triM F k (m + 1) a b := by
  unfold putM triM
  by_cases e : a = (k : Int) + 1 ∧ b = (m : Int)
  · obtain ⟨rfl, rfl⟩ := e
    rw [if_pos ⟨rfl, rfl⟩, if_pos ⟨by omega, by omega, by omega, by omega⟩, show ((k : Int) + 1).toNat = k + 1 by omega, Int.toNat_natCast]
  · rw [if_neg e]
    by_cases q : 0 ≤ a ∧ 0 ≤ b ∧ b ≤ a ∧ (a < (k : Int) + 1 ∨ (a = (k : Int) + 1 ∧ b < (m : Int)) ∨ (a = 1 ∧ b = 1))
    · rw [if_pos q, if_pos (by omega)]
    · rw [if_neg q, if_neg (by omega)]
theorem triM_same (F : Nat → Nat → Int) (k : Nat) (z : F (k + 1) 0 = 0) (a b : Int) : triM F k 0 a b = triM F k 1 a b := by
  unfold triM
  by_cases e : a = (k : Int) + 1 ∧ b = 0
  · obtain ⟨rfl, rfl⟩ := e
    rw [if_neg (by omega), if_pos (by omega), show ((k : Int) + 1).toNat = k + 1 by omega]
    exact z.symm
  · by_cases q : 0 ≤ a ∧ 0 ≤ b ∧ b ≤ a ∧ (a < (k : Int) + 1 ∨ (a = (k : Int) + 1 ∧ b < ((0 : Nat) : Int)) ∨ (a = 1 ∧ b = 1))
    · rw [if_pos q, if_pos (by omega)]
    · rw [if_neg q, if_neg (by omega)]
theorem triM_diag (F : Nat → Nat → Int) (k : Nat) (a b : Int) : putM (triM F k (k + 1)) ((k : Int) + 1) ((k : Int) + 1) (F (k + 1) (k + 1)) a b = triM F (k + 1) 0 a b := by
  unfold putM triM
  by_cases e : a = (k : Int) + 1 ∧ b = (k : Int) + 1
  · obtain ⟨rfl, rfl⟩ := e
    rw [if_pos ⟨rfl, rfl⟩, if_pos (by omega), show ((k : Int) + 1).toNat = k + 1 by omega]
  · rw [if_neg e]
    by_cases q : 0 ≤ a ∧ 0 ≤ b ∧ b ≤ a ∧ (a < (k : Int) + 1 ∨ (a = (k : Int) + 1 ∧ b < ((k + 1 : Nat) : Int)) ∨ (a = 1 ∧ b = 1))
    · rw [if_pos q, if_pos (by omega)]
    · rw [if_neg q, if_neg (by omega)]
theorem triM_one (F : Nat → Nat → Int) {k : Nat} (h : ¬ ((k : Int) + 1 > 1)) (a b : Int) : triM F k (k + 1) a b = triM F (k + 1) 0 a b := by
  obtain rfl : k = 0 := by omega
  unfold triM
  by_cases q : 0 ≤ a ∧ 0 ≤ b ∧ b ≤ a ∧ (a < ((0 : Nat) : Int) + 1 ∨ (a = ((0 : Nat) : Int) + 1 ∧ b < ((0 + 1 : Nat) : Int)) ∨ (a = 1 ∧ b = 1))
  · rw [if_pos q, if_pos (by omega)]
  · rw [if_neg q, if_neg (by omega)]
theorem triM_all (F : Nat → Nat → Int) {n m : Nat} (h : m ≤ n) (h6 : n ≤ 6) : triM F 6 0 (n : Int) (m : Int) = F n m := by
  unfold triM
  rw [if_pos (by omega), Int.toNat_natCast, Int.toNat_natCast]
theorem triM_none (F : Nat → Nat → Int) {x y : Int} (h0 : F 0 0 = x) (h1 : F 1 1 = y) (a b : Int) : mf2 true x true y a b = triM F 0 0 a b := by
  unfold mf2 triM
  by_cases e : a = 1 ∧ b = 1
  · obtain ⟨rfl, rfl⟩ := e
    rw [if_pos ⟨rfl, rfl, rfl⟩, if_pos (by omega)]
    exact h1.symm
  · rw [if_neg (fun h => e h.2)]
    by_cases g : a = 0 ∧ b = 0
    · obtain ⟨rfl, rfl⟩ := g
      rw [if_pos ⟨rfl, rfl, rfl⟩, if_pos (by omega)]
      exact h0.symm
    · rw [if_neg (fun h => g h.2), if_neg (by omega)]
theorem mf2_none (x y : Int) (a b : Int) : mf2 false x true y a b = mf2 true 0 true y a b := by
  unfold mf2
  simp
/-- All steps of P, D and Q. -/
structure Tri (c s : Int) (P D Q : Nat → Nat → Int) : Type where
  p0 : P 0 0 = 1099511627776
  d0 : D 0 0 = 0
  q0 : Q 0 0 = 0
  p1 : P 1 1 = s
  d1 : D 1 1 = c
  q1 : Q 1 1 = 1099511627776
  qz : ∀ n, n ≤ 6 → Q n 0 = 0
  (ga gb : Nat → Nat → Int)
  R : ∀ k m : Nat, k < 6 → m < k + 1 → RootT ((k : Int) + 1) (m : Int) (ga k m) (gb k m)
  T : ∀ k m : Nat, k < 6 → m < k + 1 → EntT c s (gb k m) (ga k m) (P k m) (D k m) (low P k m) (low D k m) (P (k + 1) m) (D (k + 1) m)
  U : ∀ k m : Nat, k < 6 → m < k + 1 → EntQ c (gb k m) (ga k m) (Q k m) (low Q k m) (Q (k + 1) m)
  J : ∀ k : Nat, 1 ≤ k → k < 6 → DiaT ((k : Int) + 1) c s (P k k) (D k k) (Q k k) (P (k + 1) (k + 1)) (D (k + 1) (k + 1)) (Q (k + 1) (k + 1))
  ip : ∀ n m : Nat, n ≤ 6 → I64 (P n m)
  id : ∀ n m : Nat, n ≤ 6 → I64 (D n m)
  iq : ∀ n m : Nat, n ≤ 6 → I64 (Q n m)
end Go.Proofs.YtoadcnhcfodkgaaGreatDoor
