/-
  Turn of the reference, for the seat Ytidlbkljnlfkpaa. (Made by mkclock.py.)
-/
import Derived.Test.YtidlbkljnlfkpaaCDDays
import Derived.Handy
import Derived.Deep.RegionHeld3
namespace Go.Proofs.Ytidlbkljnlfkpaa
open Go.RowKit

def dTurnY (bad : Bool) (t : Int) : (Int) × Bool := let r1 := cDaysS bad t; if r1.2 then (0, r1.2) else let r2 := partS r1.2 6908435304716 (t % 86400000) 86400000; let r3 := addS r2.2 5399947124839 r2.1; let r4 := mulS r3.2 18914669620 r1.1; let r5 := addS r4.2 r3.1 r4.1; let r6 := modS r5.2 r5.1 6908435304716; (r6.1, r6.2)
def dTurnN (_ : Bool) (_ : Int) : (Int) × Bool := (0, true)
set_option maxRecDepth 100000 in
set_option maxHeartbeats 2000000 in
theorem dTurn_yes (b : Nat) (bad : Bool) (t : Int) (w : World) (hw : Fl b bad w) (h0 : 0 ≤ t) (h1 : t ≤ 157766400000) :
    Calls Try.prog 12 #[.pointer (some ⟨b, 0, none⟩), .int .i64 t] w fun e w' => e = .returned (.int .i64 ((dTurnY bad t).1)) ∧ Fl b (dTurnY bad t).2 w' ∧ Kept b w w' := by
  have hl := hw.lies
  go_enter Try.func12, Try.ntmps12
  go_wp2_with fail
  refine (dDays_any b bad t _ hw).mono ?_
  rintro e w1 ⟨rfl, f1, k1⟩
  generalize e1 : cDaysS bad t = r1 at f1 ⊢
  have E1 : Hid _ := e1
  clear e1
  have K1 : Kept b w w1 := Kept.trans (Kept.refl b w) k1
  have z1 := K1.size
  clear k1
  rcases Bool.eq_false_or_eq_true r1.2 with hc1 | hc1
  · have Hhc1 : Hid (r1.2 = true) := hc1
    have c2_BF := f1.cell
    go_wp2
    clear c2_BF
    go_ret
    have hs : dTurnY bad t = (0, r1.2) := by unfold dTurnY; simp only [E1.out]; rw [if_pos Hhc1.out]
    rw [hs]
    exact ⟨rfl, f1, K1⟩
  · have Hhc1 : Hid (r1.2 = false) := hc1
    have c2_BF := f1.cell
    go_wp2_with fail
    refine (rPart_any b r1.2 6908435304716 (t % 86400000) 86400000 _ f1).mono ?_
    rintro e w2 ⟨rfl, f2, k2⟩
    generalize e2 : partS r1.2 6908435304716 (t % 86400000) 86400000 = r2 at f2 ⊢
    have E2 : Hid _ := e2
    clear e2
    have K2 : Kept b w w2 := Kept.trans K1 k2
    have z2 := K2.size
    clear c2_BF K1 f1 k2
    go_wp2_with fail
    refine (rAdd_any b r2.2 5399947124839 r2.1 _ f2).mono ?_
    rintro e w3 ⟨rfl, f3, k3⟩
    generalize e3 : addS r2.2 5399947124839 r2.1 = r3 at f3 ⊢
    have E3 : Hid _ := e3
    clear e3
    have K3 : Kept b w w3 := Kept.trans K2 k3
    have z3 := K3.size
    clear K2 f2 k3
    go_wp2_with fail
    refine (rMul_any b r3.2 18914669620 r1.1 _ f3).mono ?_
    rintro e w4 ⟨rfl, f4, k4⟩
    generalize e4 : mulS r3.2 18914669620 r1.1 = r4 at f4 ⊢
    have E4 : Hid _ := e4
    clear e4
    have K4 : Kept b w w4 := Kept.trans K3 k4
    have z4 := K4.size
    clear K3 f3 k4
    go_wp2_with fail
    refine (rAdd_any b r4.2 r3.1 r4.1 _ f4).mono ?_
    rintro e w5 ⟨rfl, f5, k5⟩
    generalize e5 : addS r4.2 r3.1 r4.1 = r5 at f5 ⊢
    have E5 : Hid _ := e5
    clear e5
    have K5 : Kept b w w5 := Kept.trans K4 k5
    have z5 := K5.size
    clear K4 f4 k5
    go_wp2_with fail
    refine (rMod_any b r5.2 r5.1 6908435304716 _ f5).mono ?_
    rintro e w6 ⟨rfl, f6, k6⟩
    generalize e6 : modS r5.2 r5.1 6908435304716 = r6 at f6 ⊢
    have E6 : Hid _ := e6
    clear e6
    have K6 : Kept b w w6 := Kept.trans K5 k6
    have z6 := K6.size
    clear K5 f5 k6
    go_wp2
    go_ret
    have hs : dTurnY bad t = (r6.1, r6.2) := by unfold dTurnY; simp only [E1.out, E2.out, E3.out, E4.out, E5.out, E6.out]; rw [if_neg (by rw [Hhc1.out]; decide)]
    rw [hs]
    exact ⟨rfl, f6, K6⟩
set_option maxRecDepth 100000 in
set_option maxHeartbeats 2000000 in
theorem dTurn_no (b : Nat) (bad : Bool) (t : Int) (w : World) (hw : Fl b bad w) (hn : ¬ (0 ≤ t ∧ t ≤ 157766400000)) :
    Calls Try.prog 12 #[.pointer (some ⟨b, 0, none⟩), .int .i64 t] w fun e w' => e = .returned (.int .i64 ((dTurnN bad t).1)) ∧ Fl b (dTurnN bad t).2 w' ∧ Kept b w w' := by
  have hl := hw.lies
  go_enter Try.func12, Try.ntmps12
  go_wp2_with fail
  refine (dDays_any b bad t _ hw).mono ?_
  rintro e w1 ⟨rfl, f1, k1⟩
  rw [cDaysS_out bad hn] at f1 ⊢
  dsimp only at f1 ⊢
  have K1 : Kept b w w1 := Kept.trans (Kept.refl b w) k1
  have z1 := K1.size
  clear k1
  have c2_BF := f1.cell
  go_wp2
  clear c2_BF
  go_ret
  have hs : dTurnN bad t = (0, true) := rfl
  rw [hs]
  exact ⟨rfl, f1, K1⟩
theorem dTurn_in (bad : Bool) {t : Int} (h0 : 0 ≤ t) (h1 : t ≤ 157766400000) : dTurnY bad t = cTurnS bad t := by
  cases bad
  · have s := cSteps h0 h1
    rw [cTurnS_in h0 h1]
    unfold dTurnY
    simp only [cDaysS_in h0 h1, s.part, s.mul, s.add, s.sum, s.mod, Bool.false_eq_true, if_false]
  · rw [cTurnS_bad]
    unfold dTurnY; rw [show cDaysS true t = (0, true) by unfold cDaysS; rw [cRight_in h0 h1]; rfl]; rfl
theorem dTurn_out (bad : Bool) {t : Int} (hn : ¬ (0 ≤ t ∧ t ≤ 157766400000)) : dTurnN bad t = cTurnS bad t := by
  rw [cTurnS_out bad hn]; unfold dTurnN; rfl
theorem dTurn_any (b : Nat) (bad : Bool) (t : Int) (w : World) (hw : Fl b bad w) :
    Calls Try.prog 12 #[.pointer (some ⟨b, 0, none⟩), .int .i64 t] w fun e w' => e = .returned (.int .i64 (cTurnS bad t).1) ∧ Fl b (cTurnS bad t).2 w' ∧ Kept b w w' := by
  rcases cRight_cases t with ⟨h0, h1⟩ | hn
  · have h := dTurn_yes b bad t w hw h0 h1
    rw [dTurn_in bad h0 h1] at h
    exact h
  · have h := dTurn_no b bad t w hw hn
    rw [dTurn_out bad hn] at h
    exact h
end Go.Proofs.Ytidlbkljnlfkpaa
