/-
  What package clock's functions answer, as plain steps, for the seat YtoadcnhcfodkgaaGreatDoor. No Go text in sight.
-/
import Derived.Test.YtoadcnhcfodkgaaGreatDoorCMath
namespace Go.Proofs.YtoadcnhcfodkgaaGreatDoor
open Go.RowKit

def cRight (t : Int) : Bool := decide (0 ≤ t) && decide (t ≤ 157766400000)
def cDaysS (bad : Bool) (t : Int) : Int × Bool := if cRight t then partS bad 1099511627776 t 86400000 else (0, true)
/-- A tick in days, of a right one. -/
def cDay (t : Int) : Int := rnd (1099511627776 * t) 86400000
def cSince (t : Int) : Int := rnd (6908435304716 * (t % 86400000)) 86400000
def cBeyond (t : Int) : Int := rnd (18914669620 * cDay t) 1099511627776
def cTurnS (bad : Bool) (t : Int) : Int × Bool := if cRight t && !bad then ((5399947124839 + cSince t + cBeyond t) % 6908435304716, false) else (0, true)
theorem cRight_in {t : Int} (h0 : 0 ≤ t) (h1 : t ≤ 157766400000) : cRight t = true := by unfold cRight; rw [decide_eq_true h0, decide_eq_true h1]; rfl
theorem cRight_out {t : Int} (h : ¬ (0 ≤ t ∧ t ≤ 157766400000)) : cRight t = false := by
  unfold cRight
  by_cases a : 0 ≤ t
  · rw [decide_eq_false (p := t ≤ 157766400000) (by omega), Bool.and_false]
  · rw [decide_eq_false a]; rfl
theorem cRight_cases (t : Int) : (0 ≤ t ∧ t ≤ 157766400000) ∨ ¬ (0 ≤ t ∧ t ≤ 157766400000) := Classical.em _
/-- All steps of Turn, at a right tick. -/
structure CSteps (t : Int) : Prop where
  day : partS false 1099511627776 t 86400000 = (cDay t, false)
  part : partS false 6908435304716 (t % 86400000) 86400000 = (cSince t, false)
  mul : mulS false 18914669620 (cDay t) = (cBeyond t, false)
  add : addS false 5399947124839 (cSince t) = (5399947124839 + cSince t, false)
  sum : addS false (5399947124839 + cSince t) (cBeyond t) = (5399947124839 + cSince t + cBeyond t, false)
  mod : modS false (5399947124839 + cSince t + cBeyond t) 6908435304716 = ((5399947124839 + cSince t + cBeyond t) % 6908435304716, false)
theorem cSteps {t : Int} (h0 : 0 ≤ t) (h1 : t ≤ 157766400000) : CSteps t := by
  have d0 : 0 ≤ cDay t ∧ cDay t ≤ 2007708232318976 := by unfold cDay rnd; omega
  have p0 : 0 ≤ cSince t ∧ cSince t ≤ 6908435304716 := by unfold cSince rnd; omega
  have q0 : 0 ≤ cBeyond t ∧ cBeyond t ≤ 35000000000000 := by unfold cBeyond rnd; omega
  constructor
  · exact part_up (by decide) (by decide) h0 (by omega) (by decide) (by decide) (show cDay t ≤ _ by omega)
  · exact part_up (by decide) (by decide) (by omega) (by omega) (by decide) (by decide) (show cSince t ≤ _ by omega)
  · exact part_up (by decide) (by decide) (by omega) (by omega) (by decide) (by decide) (show cBeyond t ≤ _ by omega)
  · exact add_up (by decide) (by omega) (by omega)
  · exact add_up (by omega) (by omega) (by omega)
  · exact mod_up (by omega) (by omega) (by decide) (by decide)
theorem cDaysS_in {t : Int} (h0 : 0 ≤ t) (h1 : t ≤ 157766400000) : cDaysS false t = (cDay t, false) := by unfold cDaysS; rw [cRight_in h0 h1, if_pos rfl, (cSteps h0 h1).day]
theorem cDaysS_out (bad : Bool) {t : Int} (h : ¬ (0 ≤ t ∧ t ≤ 157766400000)) : cDaysS bad t = (0, true) := by unfold cDaysS; rw [cRight_out h]; rfl
theorem cTurnS_in {t : Int} (h0 : 0 ≤ t) (h1 : t ≤ 157766400000) : cTurnS false t = ((5399947124839 + cSince t + cBeyond t) % 6908435304716, false) := by unfold cTurnS; rw [cRight_in h0 h1]; rfl
theorem cTurnS_out (bad : Bool) {t : Int} (h : ¬ (0 ≤ t ∧ t ≤ 157766400000)) : cTurnS bad t = (0, true) := by unfold cTurnS; rw [cRight_out h]; rfl
theorem cTurnS_bad (t : Int) : cTurnS true t = (0, true) := by unfold cTurnS; rw [show (!true) = false from rfl, Bool.and_false]; rfl
/-- A day later. -/
theorem cDaily {t : Int} (h0 : 0 ≤ t) (h1 : t ≤ 157680000000) : ∃ A B, cTurnS false t = (A, false) ∧ cTurnS false (t + 86400000) = (B, false) ∧ 0 ≤ A ∧ A < 6908435304716 ∧ 0 ≤ B ∧ B < 6908435304716 ∧ modS false (B - A) 6908435304716 = (18914669620, false) := by
  refine ⟨_, _, cTurnS_in h0 (by omega), cTurnS_in (by omega) (by omega), by omega, by omega, by omega, by omega, ?_⟩
  have e1 : cDay (t + 86400000) = cDay t + 1099511627776 := by
    unfold cDay
    rw [show 1099511627776 * (t + 86400000) = 1099511627776 * t + 1099511627776 * 86400000 by omega]
    exact rnd_more _ _ (by decide)
  have e2 : cBeyond (t + 86400000) = cBeyond t + 18914669620 := by
    unfold cBeyond
    rw [e1, show 18914669620 * (cDay t + 1099511627776) = 18914669620 * cDay t + 18914669620 * 1099511627776 by omega]
    exact rnd_more _ _ (by decide)
  have e3 : cSince (t + 86400000) = cSince t := by unfold cSince; rw [show (t + 86400000) % 86400000 = t % 86400000 by omega]
  rw [e2, e3, mod_up (by omega) (by omega) (by decide) (by decide)]
  exact Prod.ext (by show (_ : Int) = _; omega) rfl
end Go.Proofs.YtoadcnhcfodkgaaGreatDoor
