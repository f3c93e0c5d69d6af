/-
  Days and Right, for the seat Ytchkedlfackfgaa. (Made by mkclock.py.)
-/
import Derived.Test.YtchkedlfackfgaaCSpec
import Derived.Test.YtchkedlfackfgaaMeth
import Derived.Test.YtchkedlfackfgaaVMem
import Derived.Handy
import Derived.Deep.RegionHeld3
namespace Go.Proofs.Ytchkedlfackfgaa
open Go.RowKit

set_option maxHeartbeats 400000 in
theorem cRight_any (t : Int) (w : World) : Calls Try.prog 26 #[.int .i64 t] w fun e w' => e = .returned (.bool (cRight t)) ∧ Below w.heap.size w w' := by
  rcases cRight_cases t with ⟨h0, h1⟩ | hn
  · have H : Hid _ := cRight_in h0 h1
    go_enter Try.func26, Try.ntmps26
    go_wp2
    go_ret
    rw [H.out]
    exact ⟨rfl, Below.refl _ _⟩
  · have H : Hid _ := cRight_out hn
    by_cases c : 0 ≤ t
    · have d : ¬ t ≤ 157766400000 := by omega
      clear hn
      go_enter Try.func26, Try.ntmps26
      go_wp2
      go_ret
      rw [H.out]
      exact ⟨rfl, Below.refl _ _⟩
    · clear hn
      go_enter Try.func26, Try.ntmps26
      go_wp2
      go_ret
      rw [H.out]
      exact ⟨rfl, Below.refl _ _⟩
theorem cRight_yes (t : Int) (w : World) (h0 : 0 ≤ t) (h1 : t ≤ 157766400000) : Calls Try.prog 26 #[.int .i64 t] w fun e w' => e = .returned (.bool true) ∧ Below w.heap.size w w' := by
  have h := cRight_any t w
  rw [cRight_in h0 h1] at h
  exact h
theorem cRight_no (t : Int) (w : World) (hn : ¬ (0 ≤ t ∧ t ≤ 157766400000)) : Calls Try.prog 26 #[.int .i64 t] w fun e w' => e = .returned (.bool false) ∧ Below w.heap.size w w' := by
  have h := cRight_any t w
  rw [cRight_out hn] at h
  exact h
def cDaysY (bad : Bool) (t : Int) : (Int) × Bool := let r2 := partS bad 1099511627776 t 86400000; (r2.1, r2.2)
def cDaysN (_ : Bool) (_ : Int) : (Int) × Bool := (0, true)
theorem cDays_in (bad : Bool) {t : Int} (h0 : 0 ≤ t) (h1 : t ≤ 157766400000) : cDaysY bad t = cDaysS bad t := by
  unfold cDaysY cDaysS; rw [cRight_in h0 h1]; rfl
theorem cDays_out (bad : Bool) {t : Int} (hn : ¬ (0 ≤ t ∧ t ≤ 157766400000)) : cDaysN bad t = cDaysS bad t := by
  unfold cDaysN; rw [cDaysS_out bad hn]
end Go.Proofs.Ytchkedlfackfgaa
