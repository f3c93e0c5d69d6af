/-
  Turn, for the seat Ytidlbkljnlfkpaa. (Made by mkclock.py.)
-/
import Derived.Test.YtidlbkljnlfkpaaCCDays
import Derived.Handy
import Derived.Deep.RegionHeld3
namespace Go.Proofs.Ytidlbkljnlfkpaa
open Go.RowKit

def cTurnY (bad : Bool) (t : Int) : (Int) × Bool := let r2 := partS bad 6908435304716 (t % 86400000) 86400000; let r3 := cDaysS r2.2 t; let r4 := mulS r3.2 18914669620 r3.1; let r5 := addS r4.2 5399947124839 r2.1; let r6 := addS r5.2 r5.1 r4.1; let r7 := modS r6.2 r6.1 6908435304716; (r7.1, r7.2)
def cTurnN (_ : Bool) (_ : Int) : (Int) × Bool := (0, true)
set_option maxRecDepth 100000 in
set_option maxHeartbeats 2000000 in
theorem cTurn_yes (b : Nat) (bad : Bool) (t : Int) (w : World) (hw : Fl b bad w) (h0 : 0 ≤ t) (h1 : t ≤ 157766400000) :
    Calls Try.prog 11 #[.pointer (some ⟨b, 0, none⟩), .int .i64 t] w fun e w' => e = .returned (.int .i64 ((cTurnY bad t).1)) ∧ Fl b (cTurnY bad t).2 w' ∧ Kept b w w' := by
  have hl := hw.lies
  go_enter Try.func11, Try.ntmps11
  go_wp2_with fail
  refine (cRight_yes t _ h0 h1).mono ?_
  rintro e w1 ⟨rfl, k1⟩
  have K1 : Kept b w w1 := Kept.trans (Kept.refl b w) (Kept.of_below k1)
  have BF_1 : Fl b bad w1 := hw.below k1
  have z1 := K1.size
  clear k1
  go_wp2_with fail
  refine (Part_any b bad 6908435304716 (t % 86400000) 86400000 _ BF_1).mono ?_
  rintro e w2 ⟨rfl, f2, k2⟩
  generalize e2 : partS bad 6908435304716 (t % 86400000) 86400000 = r2 at f2 ⊢
  have E2 : Hid _ := e2
  clear e2
  have K2 : Kept b w w2 := Kept.trans K1 k2
  have z2 := K2.size
  clear K1 BF_1 k2
  go_wp2_with fail
  refine (cDays_any b r2.2 t _ f2).mono ?_
  rintro e w3 ⟨rfl, f3, k3⟩
  generalize e3 : cDaysS r2.2 t = r3 at f3 ⊢
  have E3 : Hid _ := e3
  clear e3
  have K3 : Kept b w w3 := Kept.trans K2 k3
  have z3 := K3.size
  clear K2 f2 k3
  go_wp2_with fail
  refine (Mul_any b r3.2 18914669620 r3.1 _ f3).mono ?_
  rintro e w4 ⟨rfl, f4, k4⟩
  generalize e4 : mulS r3.2 18914669620 r3.1 = r4 at f4 ⊢
  have E4 : Hid _ := e4
  clear e4
  have K4 : Kept b w w4 := Kept.trans K3 k4
  have z4 := K4.size
  clear K3 f3 k4
  go_wp2_with fail
  refine (Add_any b r4.2 5399947124839 r2.1 _ f4).mono ?_
  rintro e w5 ⟨rfl, f5, k5⟩
  generalize e5 : addS r4.2 5399947124839 r2.1 = r5 at f5 ⊢
  have E5 : Hid _ := e5
  clear e5
  have K5 : Kept b w w5 := Kept.trans K4 k5
  have z5 := K5.size
  clear K4 f4 k5
  go_wp2_with fail
  refine (Add_any b r5.2 r5.1 r4.1 _ f5).mono ?_
  rintro e w6 ⟨rfl, f6, k6⟩
  generalize e6 : addS r5.2 r5.1 r4.1 = r6 at f6 ⊢
  have E6 : Hid _ := e6
  clear e6
  have K6 : Kept b w w6 := Kept.trans K5 k6
  have z6 := K6.size
  clear K5 f5 k6
  go_wp2_with fail
  refine (Mod_any b r6.2 r6.1 6908435304716 _ f6).mono ?_
  rintro e w7 ⟨rfl, f7, k7⟩
  generalize e7 : modS r6.2 r6.1 6908435304716 = r7 at f7 ⊢
  have E7 : Hid _ := e7
  clear e7
  have K7 : Kept b w w7 := Kept.trans K6 k7
  have z7 := K7.size
  clear K6 f6 k7
  go_wp2
  go_ret
  have hs : cTurnY bad t = (r7.1, r7.2) := by unfold cTurnY; simp only [E2.out, E3.out, E4.out, E5.out, E6.out, E7.out]
  rw [hs]
  exact ⟨rfl, f7, K7⟩
set_option maxRecDepth 100000 in
set_option maxHeartbeats 2000000 in
theorem cTurn_no (b : Nat) (bad : Bool) (t : Int) (w : World) (hw : Fl b bad w) (hn : ¬ (0 ≤ t ∧ t ≤ 157766400000)) :
    Calls Try.prog 11 #[.pointer (some ⟨b, 0, none⟩), .int .i64 t] w fun e w' => e = .returned (.int .i64 ((cTurnN bad t).1)) ∧ Fl b (cTurnN bad t).2 w' ∧ Kept b w w' := by
  have hl := hw.lies
  go_enter Try.func11, Try.ntmps11
  go_wp2_with fail
  refine (cRight_no t _ hn).mono ?_
  rintro e w1 ⟨rfl, k1⟩
  have K1 : Kept b w w1 := Kept.trans (Kept.refl b w) (Kept.of_below k1)
  have BF_1 : Fl b bad w1 := hw.below k1
  have z1 := K1.size
  clear k1
  go_wp2_with fail
  refine (Fail_any b bad  _ BF_1).mono ?_
  rintro e w2 ⟨rfl, f2, k2⟩
  have K2 : Kept b w w2 := Kept.trans K1 k2
  have z2 := K2.size
  clear K1 BF_1 k2
  go_wp2
  go_ret
  have hs : cTurnN bad t = (0, true) := rfl
  rw [hs]
  exact ⟨rfl, f2, K2⟩
theorem cTurn_in (bad : Bool) {t : Int} (h0 : 0 ≤ t) (h1 : t ≤ 157766400000) : cTurnY bad t = cTurnS bad t := by
  cases bad
  · have s := cSteps h0 h1
    rw [cTurnS_in h0 h1]
    unfold cTurnY
    simp only [cDaysS_in h0 h1, s.part, s.mul, s.add, s.sum, s.mod]
  · rw [cTurnS_bad]
    unfold cTurnY; simp only [show partS true 6908435304716 (t % 86400000) 86400000 = (0, true) from rfl, show cDaysS true t = (0, true) by unfold cDaysS; rw [cRight_in h0 h1]; rfl]; rfl
theorem cTurn_out (bad : Bool) {t : Int} (hn : ¬ (0 ≤ t ∧ t ≤ 157766400000)) : cTurnN bad t = cTurnS bad t := by
  rw [cTurnS_out bad hn]; unfold cTurnN; rfl
theorem cTurn_any (b : Nat) (bad : Bool) (t : Int) (w : World) (hw : Fl b bad w) :
    Calls Try.prog 11 #[.pointer (some ⟨b, 0, none⟩), .int .i64 t] w fun e w' => e = .returned (.int .i64 (cTurnS bad t).1) ∧ Fl b (cTurnS bad t).2 w' ∧ Kept b w w' := by
  rcases cRight_cases t with ⟨h0, h1⟩ | hn
  · have h := cTurn_yes b bad t w hw h0 h1
    rw [cTurn_in bad h0 h1] at h
    exact h
  · have h := cTurn_no b bad t w hw hn
    rw [cTurn_out bad hn] at h
    exact h
end Go.Proofs.Ytidlbkljnlfkpaa
