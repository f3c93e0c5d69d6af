/-
  The walk of the reference's comparison of two words (alidaderef01.above), for the seat YtoadcnhcfodkgaaGreatDoor.
-/
import Derived.Test.YtoadcnhcfodkgaaGreatDoorRTimes
import Derived.Handy
namespace Go.Proofs.YtoadcnhcfodkgaaGreatDoor
open Go.RowKit

set_option maxHeartbeats 400000 in
theorem rabove_any (n m : Int) (w : World) :
    Calls Tryz.prog 183 #[.agg #[.int .u64 (hi64 n), .int .u64 (lo64 n)], .agg #[.int .u64 (hi64 m), .int .u64 (lo64 m)]] w fun e w' => e = .returned (.bool (decide (m < n))) ∧ Below w.heap.size w w' := by
  have b2 := lo64_bd n
  have b4 := lo64_bd m
  have e1 := hilo n
  have e2 := hilo m
  by_cases c1 : hi64 m < hi64 n
  · have HF : Hid (true = decide (m < n)) := by show _ = _; simp; omega
    clear b2 b4 e1 e2
    go_enter Tryz.func183, Tryz.ntmps183
    go_wp2
    go_ret
    exact ⟨ret_bool (by simpa using HF.out), by go_grown⟩
  · by_cases c2 : hi64 n = hi64 m
    · have HF : Hid (decide (lo64 m < lo64 n) = decide (m < n)) := by show _ = _; simp; omega
      have c3 : (hi64 n == hi64 m) = true := by simpa using c2
      clear b2 b4 e1 e2 c2
      go_enter Tryz.func183, Tryz.ntmps183
      go_wp2
      go_ret
      exact ⟨ret_bool HF.out, by go_grown⟩
    · have HF : Hid (false = decide (m < n)) := by show _ = _; simp; omega
      have c3 : (hi64 n == hi64 m) = false := by simpa using c2
      clear b2 b4 e1 e2 c2
      go_enter Tryz.func183, Tryz.ntmps183
      go_wp2
      go_ret
      exact ⟨ret_bool HF.out, by go_grown⟩
end Go.Proofs.YtoadcnhcfodkgaaGreatDoor
