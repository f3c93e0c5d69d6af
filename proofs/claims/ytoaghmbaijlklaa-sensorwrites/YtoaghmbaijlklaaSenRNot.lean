/-
  Readings out of frames: the reference's Read, of what is no sensor's frame, walked, for the seat Ytoaghmbaijlklaa.
-/
import Derived.Test.YtoaghmbaijlklaaSenRead
import Derived.Test.YtoaghmbaijlklaaSenRGyro
import Derived.Test.YtoaghmbaijlklaaSenRMag
import Derived.Test.YtoaghmbaijlklaaSenRSun
namespace Go.Proofs.Ytoaghmbaijlklaa
open Go.RowKit

set_option maxHeartbeats 4000000 in
set_option maxRecDepth 100000 in
theorem rread_none (k n : Int) (s : ByteArray) (w : World) (hm : s.size ≤ maxLen) (h : (k = 2 ∧ n = 18) ∨ (¬ k = 2 ∧ n = 12)) (hn : k < 1 ∨ 3 < k ∨ ¬ (s.size : Int) = n) :
    Calls Try.prog 10 #[.agg #[.int .i64 k, .string s]] w fun e w' => e = .returned (.tuple #[rdV (0, 0, 0, 0, 0), .bool false]) ∧ Below w.heap.size w w' := by
  unfold rdV
  have hm' : (s.size : Int) ≤ 9223372036854775807 := by unfold maxLen at hm; omega
  clear hm
  by_cases c2 : k = 2
  · obtain rfl : n = 18 := by omega
    subst c2
    have hs : ((s.size : Int) != 18) = true := by simp; omega
    clear hn h
    go_enter Try.func10, Try.ntmps10
    go_wp2_with (with_reducible refine post_stop ?_)
    exact ⟨bodyPost_ret (v := .tuple #[.agg #[.int .i64 0, .int .i64 0, .int .i64 0, .int .i64 0, .int .i64 0], .bool false]) (by simp [results_cell_tmp Try.results10, asAddr, go_sem]) rfl ⟨rfl, bel_al (bel_al (bel_al (Below.refl _ _) _) _) _⟩⟩
  have d2 : (k == 2) = false := by simpa using c2
  obtain rfl : n = 12 := by omega
  clear h c2
  by_cases c1 : k < 1
  · clear hn
    go_enter Try.func10, Try.ntmps10
    go_wp2_with (with_reducible refine post_stop ?_)
    exact ⟨bodyPost_ret (v := .tuple #[.agg #[.int .i64 0, .int .i64 0, .int .i64 0, .int .i64 0, .int .i64 0], .bool false]) (by simp [results_cell_tmp Try.results10, asAddr, go_sem]) rfl ⟨rfl, bel_al (bel_al (bel_al (Below.refl _ _) _) _) _⟩⟩
  by_cases c3 : 3 < k
  · clear hn
    go_enter Try.func10, Try.ntmps10
    go_wp2_with (with_reducible refine post_stop ?_)
    exact ⟨bodyPost_ret (v := .tuple #[.agg #[.int .i64 0, .int .i64 0, .int .i64 0, .int .i64 0, .int .i64 0], .bool false]) (by simp [results_cell_tmp Try.results10, asAddr, go_sem]) rfl ⟨rfl, bel_al (bel_al (bel_al (Below.refl _ _) _) _) _⟩⟩
  have hs : ((s.size : Int) != 12) = true := by simp; omega
  clear hn
  go_enter Try.func10, Try.ntmps10
  go_wp2_with (with_reducible refine post_stop ?_)
  exact ⟨bodyPost_ret (v := .tuple #[.agg #[.int .i64 0, .int .i64 0, .int .i64 0, .int .i64 0, .int .i64 0], .bool false]) (by simp [results_cell_tmp Try.results10, asAddr, go_sem]) rfl ⟨rfl, bel_al (bel_al (bel_al (Below.refl _ _) _) _) _⟩⟩
theorem formOk_cases (k : Int) (s : ByteArray) : (formOk k s = true ∧ (s.size = 12 ∧ k = 1 ∨ s.size = 12 ∧ k = 3 ∨ s.size = 18 ∧ k = 2)) ∨ (formOk k s = false ∧ ∃ n : Int, ((k = 2 ∧ n = 18) ∨ (¬ k = 2 ∧ n = 12)) ∧ (k < 1 ∨ 3 < k ∨ ¬ (s.size : Int) = n)) := by
  cases h : formOk k s
  · refine Or.inr ⟨rfl, ?_⟩
    unfold formOk at h
    simp at h
    by_cases c : k = 2
    · exact ⟨18, Or.inl ⟨c, rfl⟩, by omega⟩
    · exact ⟨12, Or.inr ⟨c, rfl⟩, by omega⟩
  · refine Or.inl ⟨rfl, ?_⟩
    unfold formOk at h
    simp at h
    omega
theorem readR_not {k : Int} {s : ByteArray} (h : formOk k s = false) : readR k s = (0, 0, 0, 0, 0) ∧ readOk k s = false := by
  have e : readOk k s = false := by unfold readOk; rw [h]; rfl
  exact ⟨by unfold readR; rw [e]; rfl, e⟩
/-- sensor.Read. -/
theorem sread_any (k : Int) (s : ByteArray) (w : World) (hm : s.size ≤ maxLen) :
    Calls Try.prog 9 #[.agg #[.int .i64 k, .string s]] w fun e w' => e = .returned (.tuple #[rdV (readR k s), .bool (readOk k s)]) ∧ Below w.heap.size w w' := by
  rcases formOk_cases k s with ⟨h, _⟩ | ⟨h, _⟩
  · exact sread_form k s w h
  · rw [(readR_not h).1, (readR_not h).2]
    exact sread_not k s w hm h
/-- alidaderef12.Read. -/
theorem rread_any (k : Int) (s : ByteArray) (w : World) (hm : s.size ≤ maxLen) :
    Calls Try.prog 10 #[.agg #[.int .i64 k, .string s]] w fun e w' => e = .returned (.tuple #[rdV (readR k s), .bool (readOk k s)]) ∧ Below w.heap.size w w' := by
  rcases formOk_cases k s with ⟨h, c⟩ | ⟨h, n, c, d⟩
  · rcases c with ⟨z, rfl⟩ | ⟨z, rfl⟩ | ⟨z, rfl⟩
    · exact rread_1 s w z h
    · exact rread_3 s w z h
    · exact rread_2 s w z h
  · rw [(readR_not h).1, (readR_not h).2]
    exact rread_none k n s w hm c d
end Go.Proofs.Ytoaghmbaijlklaa
