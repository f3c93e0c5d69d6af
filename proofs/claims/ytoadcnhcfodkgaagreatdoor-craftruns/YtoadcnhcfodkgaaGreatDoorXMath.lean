/-
  How great what a flow answers can be, for the seat YtoadcnhcfodkgaaGreatDoor. No Go text in sight.
-/
import Derived.Test.YtoadcnhcfodkgaaGreatDoorQSpec
import Derived.Test.YtoadcnhcfodkgaaGreatDoorMath
namespace Go.Proofs.YtoadcnhcfodkgaaGreatDoor
open Go.RowKit

theorem partS_rng (bad : Bool) (a p q : Int) : -4611686018427387904 ≤ (partS bad a p q).1 ∧ (partS bad a p q).1 ≤ 4611686018427387904 := by
  cases h : (partS bad a p q).2
  · unfold partS at h ⊢
    split
    · rename_i c
      rw [if_pos c] at h
      have hq : q ≠ 0 := by intro e; subst e; simp at c
      have hp : 0 ≤ rnd (sz a * sz p) (sz q) := rnd_nonneg (Int.mul_nonneg (by unfold sz; split <;> omega) (by unfold sz; split <;> omega)) (by unfold sz; split <;> omega)
      have g := out_good _ _ h
      rw [g.2]
      split <;> omega
    · exact ⟨by decide, by decide⟩
  · rw [partS_bad bad a p q h]
    exact ⟨by decide, by decide⟩
theorem divS_rng (bad : Bool) (a b : Int) : -4611686018427387904 ≤ (divS bad a b).1 ∧ (divS bad a b).1 ≤ 4611686018427387904 := partS_rng _ _ _ _
theorem addS_step {bad : Bool} {a b : Int} {r : Int × Bool} (e : addS bad a b = r) (h : r.2 = false) : bad = false ∧ numB a = true ∧ numB b = true := by
  subst e
  cases ht : tk bad [a, b]
  · rw [addS_no ht] at h; cases h
  · exact tk_two ht
theorem rod_rng {bad : Bool} {q : V4} {r1 r2 r3 r4 : Int × Bool} (e1 : addS bad q.1 0 = r1) (e2 : addS r1.2 q.2.1 0 = r2) (e3 : addS r2.2 q.2.2.1 0 = r3) (e4 : addS r3.2 q.2.2.2 0 = r4) (h : r4.2 = false) :
    (-4611686018427387904 ≤ q.1 ∧ q.1 ≤ 4611686018427387904) ∧ (-4611686018427387904 ≤ q.2.1 ∧ q.2.1 ≤ 4611686018427387904) ∧ (-4611686018427387904 ≤ q.2.2.1 ∧ q.2.2.1 ≤ 4611686018427387904) ∧ (-4611686018427387904 ≤ q.2.2.2 ∧ q.2.2.2 ≤ 4611686018427387904) := by
  have s4 := addS_step e4 h
  have s3 := addS_step e3 s4.1
  have s2 := addS_step e2 s3.1
  have s1 := addS_step e1 s2.1
  exact ⟨numB_bd s1.2.1, numB_bd s2.2.1, numB_bd s3.2.1, numB_bd s4.2.1⟩
end Go.Proofs.YtoadcnhcfodkgaaGreatDoor
