/-
  Days and Right, for the seat YtoadcnhcfodkgaaGreatDoor. (Made by mkclock.py.)
-/
import Derived.Test.YtoadcnhcfodkgaaGreatDoorCSpec
import Derived.Test.YtoadcnhcfodkgaaGreatDoorRMeth
import Derived.Test.YtoadcnhcfodkgaaGreatDoorRFail
import Derived.Test.YtoadcnhcfodkgaaGreatDoorVMem
import Derived.Handy
import Derived.Deep.RegionHeld3
namespace Go.Proofs.YtoadcnhcfodkgaaGreatDoor
open Go.RowKit

set_option maxHeartbeats 400000 in
theorem dRight_any (t : Int) (w : World) : Calls Tryz.prog 17 #[.int .i64 t] w fun e w' => e = .returned (.bool (cRight t)) ∧ Below w.heap.size w w' := by
  rcases cRight_cases t with ⟨h0, h1⟩ | hn
  · have H : Hid _ := cRight_in h0 h1
    go_enter Tryz.func17, Tryz.ntmps17
    go_wp2
    go_ret
    rw [H.out]
    exact ⟨rfl, Below.refl _ _⟩
  · have H : Hid _ := cRight_out hn
    by_cases c : 0 ≤ t
    · have d : ¬ t ≤ 157766400000 := by omega
      clear hn
      go_enter Tryz.func17, Tryz.ntmps17
      go_wp2
      go_ret
      rw [H.out]
      exact ⟨rfl, Below.refl _ _⟩
    · clear hn
      go_enter Tryz.func17, Tryz.ntmps17
      go_wp2
      go_ret
      rw [H.out]
      exact ⟨rfl, Below.refl _ _⟩
theorem dRight_yes (t : Int) (w : World) (h0 : 0 ≤ t) (h1 : t ≤ 157766400000) : Calls Tryz.prog 17 #[.int .i64 t] w fun e w' => e = .returned (.bool true) ∧ Below w.heap.size w w' := by
  have h := dRight_any t w
  rw [cRight_in h0 h1] at h
  exact h
theorem dRight_no (t : Int) (w : World) (hn : ¬ (0 ≤ t ∧ t ≤ 157766400000)) : Calls Tryz.prog 17 #[.int .i64 t] w fun e w' => e = .returned (.bool false) ∧ Below w.heap.size w w' := by
  have h := dRight_any t w
  rw [cRight_out hn] at h
  exact h
def dDaysY (bad : Bool) (t : Int) : (Int) × Bool := let r2 := partS bad 1099511627776 t 86400000; (r2.1, r2.2)
def dDaysN (_ : Bool) (t : Int) : (Int) × Bool := let r3 := partS true 1099511627776 t 86400000; (r3.1, r3.2)
set_option maxRecDepth 100000 in
set_option maxHeartbeats 2000000 in
theorem dDays_yes (b : Nat) (bad : Bool) (t : Int) (w : World) (hw : Fl b bad w) (h0 : 0 ≤ t) (h1 : t ≤ 157766400000) :
    Calls Tryz.prog 69 #[.pointer (some ⟨b, 0, none⟩), .int .i64 t] w fun e w' => e = .returned (.int .i64 ((dDaysY bad t).1)) ∧ Fl b (dDaysY bad t).2 w' ∧ Kept b w w' := by
  have hl := hw.lies
  go_enter Tryz.func69, Tryz.ntmps69
  go_wp2_with fail
  refine (dRight_yes t _ h0 h1).mono ?_
  rintro e w1 ⟨rfl, k1⟩
  have K1 : Kept b w w1 := Kept.trans (Kept.refl b w) (Kept.of_below k1)
  have BF_1 : Fl b bad w1 := hw.below k1
  have z1 := K1.size
  clear k1
  go_wp2_with fail
  refine (rPart_any b bad 1099511627776 t 86400000 _ BF_1).mono ?_
  rintro e w2 ⟨rfl, f2, k2⟩
  generalize e2 : partS bad 1099511627776 t 86400000 = r2 at f2 ⊢
  have E2 : Hid _ := e2
  clear e2
  have K2 : Kept b w w2 := Kept.trans K1 k2
  have z2 := K2.size
  clear K1 BF_1 k2
  go_wp2
  go_ret
  have hs : dDaysY bad t = (r2.1, r2.2) := by unfold dDaysY; simp only [E2.out]
  rw [hs]
  exact ⟨rfl, f2, K2⟩
set_option maxRecDepth 100000 in
set_option maxHeartbeats 2000000 in
theorem dDays_no (b : Nat) (bad : Bool) (t : Int) (w : World) (hw : Fl b bad w) (hn : ¬ (0 ≤ t ∧ t ≤ 157766400000)) :
    Calls Tryz.prog 69 #[.pointer (some ⟨b, 0, none⟩), .int .i64 t] w fun e w' => e = .returned (.int .i64 ((dDaysN bad t).1)) ∧ Fl b (dDaysN bad t).2 w' ∧ Kept b w w' := by
  have hl := hw.lies
  go_enter Tryz.func69, Tryz.ntmps69
  go_wp2_with fail
  refine (dRight_no t _ hn).mono ?_
  rintro e w1 ⟨rfl, k1⟩
  have K1 : Kept b w w1 := Kept.trans (Kept.refl b w) (Kept.of_below k1)
  have BF_1 : Fl b bad w1 := hw.below k1
  have z1 := K1.size
  clear k1
  go_wp2_with fail
  refine (rFail_any b bad  _ BF_1).mono ?_
  rintro e w2 ⟨rfl, f2, k2⟩
  have K2 : Kept b w w2 := Kept.trans K1 k2
  have z2 := K2.size
  clear K1 BF_1 k2
  go_wp2_with fail
  refine (rPart_any b true 1099511627776 t 86400000 _ f2).mono ?_
  rintro e w3 ⟨rfl, f3, k3⟩
  generalize e3 : partS true 1099511627776 t 86400000 = r3 at f3 ⊢
  have E3 : Hid _ := e3
  clear e3
  have K3 : Kept b w w3 := Kept.trans K2 k3
  have z3 := K3.size
  clear K2 f2 k3
  go_wp2
  go_ret
  have hs : dDaysN bad t = (r3.1, r3.2) := by unfold dDaysN; simp only [E3.out]
  rw [hs]
  exact ⟨rfl, f3, K3⟩
theorem dDays_in (bad : Bool) {t : Int} (h0 : 0 ≤ t) (h1 : t ≤ 157766400000) : dDaysY bad t = cDaysS bad t := by
  unfold dDaysY cDaysS; rw [cRight_in h0 h1]; rfl
theorem dDays_out (bad : Bool) {t : Int} (hn : ¬ (0 ≤ t ∧ t ≤ 157766400000)) : dDaysN bad t = cDaysS bad t := by
  unfold dDaysN; rw [cDaysS_out bad hn]; rfl
theorem dDays_any (b : Nat) (bad : Bool) (t : Int) (w : World) (hw : Fl b bad w) :
    Calls Tryz.prog 69 #[.pointer (some ⟨b, 0, none⟩), .int .i64 t] w fun e w' => e = .returned (.int .i64 (cDaysS bad t).1) ∧ Fl b (cDaysS bad t).2 w' ∧ Kept b w w' := by
  rcases cRight_cases t with ⟨h0, h1⟩ | hn
  · have h := dDays_yes b bad t w hw h0 h1
    rw [dDays_in bad h0 h1] at h
    exact h
  · have h := dDays_no b bad t w hw hn
    rw [dDays_out bad hn] at h
    exact h
end Go.Proofs.YtoadcnhcfodkgaaGreatDoor
