/-
  What the reference of bdot answers, as plain steps, for the seat YtoadcnhcfodkgaaGreatDoor. No Go text in sight. (Made by mkbdot.py.)
-/
import Derived.Test.YtoadcnhcfodkgaaGreatDoorBdSpec
namespace Go.Proofs.YtoadcnhcfodkgaaGreatDoor
open Go.RowKit

/-- What the reference's loop has found behind c rounds. -/
def btB (t : Int) (c : Nat) : Int := if t < 10 + (c : Int) then t else 0
theorem tB_zero {t : Int} (h : 10 ≤ t) : btB t 0 = 0 := by unfold btB; rw [if_neg (by omega)]
theorem tB_at {t : Int} {c : Nat} (h : 10 + (c : Int) = t) : btB t (c + 1) = t := by unfold btB; rw [if_pos (by omega)]
theorem btB_next {t : Int} {c : Nat} (h : 10 + (c : Int) ≠ t) : btB t (c + 1) = btB t c := by
  unfold btB
  by_cases k : t < 10 + (c : Int)
  · rw [if_pos k, if_pos (by omega)]
  · rw [if_neg k, if_neg (by omega)]
theorem tB_last {t : Int} (h : t ≤ 10000) : btB t 9991 = t := by unfold btB; rw [if_pos (by omega)]
def rStepIn (bad : Bool) (d : D7) (v : V3) (k t : Int) : (Dr) × Bool := let r1 := addS bad v.1 0; let r2 := addS r1.2 v.2.1 0; let r3 := addS r2.2 v.2.2 0; let r4 := subS r3.2 v.1 d.2.1; let r5 := partS r4.2 r4.1 1000 t; let r6 := subS r5.2 r5.1 d.2.2.2.2.1; let r7 := partS r6.2 r6.1 t (t + 2000); let r8 := addS r7.2 d.2.2.2.2.1 r7.1; let r10 := subS r8.2 v.2.1 d.2.2.1; let r11 := partS r10.2 r10.1 1000 t; let r12 := subS r11.2 r11.1 d.2.2.2.2.2.1; let r13 := partS r12.2 r12.1 t (t + 2000); let r14 := addS r13.2 d.2.2.2.2.2.1 r13.1; let r16 := subS r14.2 v.2.2 d.2.2.2.1; let r17 := partS r16.2 r16.1 1000 t; let r18 := subS r17.2 r17.1 d.2.2.2.2.2.2; let r19 := partS r18.2 r18.1 t (t + 2000); let r20 := addS r19.2 d.2.2.2.2.2.2 r19.1; if r20.2 then ((false, 0, 0, 0, 0, 0, 0, 0), r20.2) else ((true, k, v.1, v.2.1, v.2.2, r8.1, r14.1, r20.1), r20.2)
def rStep0 (bad : Bool) (v : V3) (k : Int) : (Dr) × Bool := let r1 := addS bad v.1 0; let r2 := addS r1.2 v.2.1 0; let r3 := addS r2.2 v.2.2 0; if r3.2 then ((false, 0, 0, 0, 0, 0, 0, 0), r3.2) else ((true, k, v.1, v.2.1, v.2.2, 0, 0, 0), r3.2)
end Go.Proofs.YtoadcnhcfodkgaaGreatDoor
