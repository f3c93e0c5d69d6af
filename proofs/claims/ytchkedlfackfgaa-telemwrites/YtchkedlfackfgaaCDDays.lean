/-
  Days and Right, for the seat Ytchkedlfackfgaa. (Made by mkclock.py.)
-/
import Derived.Test.YtchkedlfackfgaaCSpec
import Derived.Test.YtchkedlfackfgaaRMeth
import Derived.Test.YtchkedlfackfgaaRFail
import Derived.Test.YtchkedlfackfgaaVMem
import Derived.Handy
import Derived.Deep.RegionHeld3
namespace Go.Proofs.Ytchkedlfackfgaa
open Go.RowKit

set_option maxHeartbeats 400000 in
theorem dRight_any (t : Int) (w : World) : Calls Try.prog 27 #[.int .i64 t] w fun e w' => e = .returned (.bool (cRight t)) ∧ Below w.heap.size w w' := by
  rcases cRight_cases t with ⟨h0, h1⟩ | hn
  · have H : Hid _ := cRight_in h0 h1
    go_enter Try.func27, Try.ntmps27
    go_wp2
    go_ret
    rw [H.out]
    exact ⟨rfl, Below.refl _ _⟩
  · have H : Hid _ := cRight_out hn
    by_cases c : 0 ≤ t
    · have d : ¬ t ≤ 157766400000 := by omega
      clear hn
      go_enter Try.func27, Try.ntmps27
      go_wp2
      go_ret
      rw [H.out]
      exact ⟨rfl, Below.refl _ _⟩
    · clear hn
      go_enter Try.func27, Try.ntmps27
      go_wp2
      go_ret
      rw [H.out]
      exact ⟨rfl, Below.refl _ _⟩
theorem dRight_yes (t : Int) (w : World) (h0 : 0 ≤ t) (h1 : t ≤ 157766400000) : Calls Try.prog 27 #[.int .i64 t] w fun e w' => e = .returned (.bool true) ∧ Below w.heap.size w w' := by
  have h := dRight_any t w
  rw [cRight_in h0 h1] at h
  exact h
theorem dRight_no (t : Int) (w : World) (hn : ¬ (0 ≤ t ∧ t ≤ 157766400000)) : Calls Try.prog 27 #[.int .i64 t] w fun e w' => e = .returned (.bool false) ∧ Below w.heap.size w w' := by
  have h := dRight_any t w
  rw [cRight_out hn] at h
  exact h
def dDaysY (bad : Bool) (t : Int) : (Int) × Bool := let r2 := partS bad 1099511627776 t 86400000; (r2.1, r2.2)
def dDaysN (_ : Bool) (t : Int) : (Int) × Bool := let r3 := partS true 1099511627776 t 86400000; (r3.1, r3.2)
theorem dDays_in (bad : Bool) {t : Int} (h0 : 0 ≤ t) (h1 : t ≤ 157766400000) : dDaysY bad t = cDaysS bad t := by
  unfold dDaysY cDaysS; rw [cRight_in h0 h1]; rfl
theorem dDays_out (bad : Bool) {t : Int} (hn : ¬ (0 ≤ t ∧ t ≤ 157766400000)) : dDaysN bad t = cDaysS bad t := by
  unfold dDaysN; rw [cDaysS_out bad hn]; rfl
end Go.Proofs.Ytchkedlfackfgaa
