/-
  What is wanted of mode.Next, for the seat YtoadcnhcfodkgaaGreatDoor. No Go text in sight.
-/
import Derived.Test.YtoadcnhcfodkgaaGreatDoorSxM
import Derived.Test.YtoadcnhcfodkgaaGreatDoorDsJ
namespace Go.Proofs.YtoadcnhcfodkgaaGreatDoor
open Go.RowKit

theorem nextW_bad {p : Pl} {s : Sn} (b : Bool) (hm : p.mode = 2) (hg : s.gap = false) (hb : s.bad = true) : nextW p { s with pass := b } = nextW p s ∧ (nextW p s).mode ≠ 2 := by
  unfold nextW nextV finW
  dsimp only
  rw [hm, hg, hb]
  by_cases h : s.order = 1
  · rw [if_pos h, if_pos h]
    exact ⟨rfl, by show (3 : Int) ≠ 2; decide⟩
  · rw [if_neg h, if_neg h]
    exact ⟨rfl, by show (1 : Int) ≠ 2; decide⟩
theorem nextW_pair {p : Pl} {s : Sn} (h : (nextW p s).mode = 2) (hm : p.mode ≠ 2) : s.pair = true := by
  unfold nextW nextV at h
  split at h
  · exact absurd h (by show (3 : Int) ≠ 2; decide)
  split at h
  · unfold safeS at h
    split at h
    · exact absurd h (by show (0 : Int) ≠ 2; decide)
    · exact absurd h hm
  split at h
  · unfold detW at h
    split at h
    · exact absurd h (by show (1 : Int) ≠ 2; decide)
    · exact absurd h hm
  split at h
  · cases hg : s.gap
    · rw [hg] at h
      simp only [cond_false] at h
      unfold coaW at h
      cases hb : s.gyro && !s.slow
      · rw [hb] at h
        simp only [cond_false] at h
        cases hp : s.pair
        · rw [hp] at h
          simp only [Bool.and_false, Bool.false_and, cntW_f] at h
          rw [if_neg (by decide)] at h
          exact absurd h hm
        · rfl
      · rw [hb] at h
        exact absurd h (by show (0 : Int) ≠ 2; decide)
    · rw [hg] at h
      exact absurd h (by show (1 : Int) ≠ 2; decide)
  exact absurd h (by show (3 : Int) ≠ 2; decide)
end Go.Proofs.YtoadcnhcfodkgaaGreatDoor
