/-
  Telem: what Counts comes to, as plain steps, for the seat YtoadcnhcfodkgaaGreatDoor. (Made by mktl.py.)
-/
import Derived.Test.YtoadcnhcfodkgaaGreatDoorTlM
import Derived.Test.YtoadcnhcfodkgaaGreatDoorVSpec
namespace Go.Proofs.YtoadcnhcfodkgaaGreatDoor
open Go.RowKit

/-- A count, or the flow is bad. -/
def tcS (r : Int × Bool) : Int × Bool := if inR r.1 (-32768) 32767 then r else (0, true)
def tlC (q : Int × Int × Int × Int) (m : V3) : (Int × Int × Int × Int) × V3 :=
  let p0 := tcS (partS false q.1 1 67108864)
  let p1 := tcS (partS p0.2 q.2.1 1 67108864)
  let p2 := tcS (partS p1.2 q.2.2.1 1 67108864)
  let p3 := tcS (partS p2.2 q.2.2.2 1 67108864)
  let p4 := tcS (partS p3.2 m.1 10000 1099511627776)
  let p5 := tcS (partS p4.2 m.2.1 10000 1099511627776)
  let p6 := tcS (partS p5.2 m.2.2 10000 1099511627776)
  if p6.2 then ((0, 0, 0, 0), (0, 0, 0)) else ((p0.1, p1.1, p2.1, p3.1), (p4.1, p5.1, p6.1))
/-- The document's: good, and all counts in their range. -/
def tlD (q : Int × Int × Int × Int) (m : V3) : (Int × Int × Int × Int) × V3 :=
  let r0 := partS false q.1 1 67108864
  let r1 := partS r0.2 q.2.1 1 67108864
  let r2 := partS r1.2 q.2.2.1 1 67108864
  let r3 := partS r2.2 q.2.2.2 1 67108864
  let r4 := partS r3.2 m.1 10000 1099511627776
  let r5 := partS r4.2 m.2.1 10000 1099511627776
  let r6 := partS r5.2 m.2.2 10000 1099511627776
  if inR r0.1 (-32768) 32767 && inR r1.1 (-32768) 32767 && inR r2.1 (-32768) 32767 && inR r3.1 (-32768) 32767 && inR r4.1 (-32768) 32767 && inR r5.1 (-32768) 32767 && inR r6.1 (-32768) 32767 && !r6.2 then ((r0.1, r1.1, r2.1, r3.1), (r4.1, r5.1, r6.1)) else ((0, 0, 0, 0), (0, 0, 0))
theorem part_bad (a p q : Int) : partS true a p q = (0, true) := partS_no (by unfold tk; simp)
theorem cS_bad (a p q : Int) : tcS (partS true a p q) = (0, true) := by rw [part_bad]; rfl
theorem cS_in {r : Int × Bool} (h : inR r.1 (-32768) 32767 = true) : tcS r = r := by unfold tcS; rw [if_pos h]
theorem cS_out {r : Int × Bool} (h : inR r.1 (-32768) 32767 = false) : tcS r = (0, true) := by unfold tcS; rw [if_neg (by rw [h]; decide)]
theorem cS_good {r : Int × Bool} (h : (tcS r).2 = false) : inR r.1 (-32768) 32767 = true ∧ tcS r = r ∧ r.2 = false := by
  cases c : inR r.1 (-32768) 32767
  · rw [cS_out c] at h; cases h
  · rw [cS_in c] at h ⊢; exact ⟨rfl, rfl, h⟩
theorem good_back {b : Bool} {a p q : Int} (h : (partS b a p q).2 = false) : b = false := by
  cases b
  · rfl
  · rw [part_bad] at h; cases h
/-- Where the document's counts are good, so are the code's, step by step, and back. -/
theorem tlC_eq (q : Int × Int × Int × Int) (m : V3) : tlC q m = tlD q m := by
  unfold tlC tlD
  dsimp only
  generalize e0 : partS false q.1 1 67108864 = r0
  cases c0 : inR r0.1 (-32768) 32767
  case false =>
    rw [cS_out c0]
    simp [cS_bad]
  rw [cS_in c0]
  generalize e1 : partS r0.2 q.2.1 1 67108864 = r1
  cases c1 : inR r1.1 (-32768) 32767
  case false =>
    rw [cS_out c1]
    simp [cS_bad]
  rw [cS_in c1]
  generalize e2 : partS r1.2 q.2.2.1 1 67108864 = r2
  cases c2 : inR r2.1 (-32768) 32767
  case false =>
    rw [cS_out c2]
    simp [cS_bad]
  rw [cS_in c2]
  generalize e3 : partS r2.2 q.2.2.2 1 67108864 = r3
  cases c3 : inR r3.1 (-32768) 32767
  case false =>
    rw [cS_out c3]
    simp [cS_bad]
  rw [cS_in c3]
  generalize e4 : partS r3.2 m.1 10000 1099511627776 = r4
  cases c4 : inR r4.1 (-32768) 32767
  case false =>
    rw [cS_out c4]
    simp [cS_bad]
  rw [cS_in c4]
  generalize e5 : partS r4.2 m.2.1 10000 1099511627776 = r5
  cases c5 : inR r5.1 (-32768) 32767
  case false =>
    rw [cS_out c5]
    simp [cS_bad]
  rw [cS_in c5]
  generalize e6 : partS r5.2 m.2.2 10000 1099511627776 = r6
  cases c6 : inR r6.1 (-32768) 32767
  case false =>
    rw [cS_out c6]
    simp
  rw [cS_in c6]
  cases r6.2 <;> simp
end Go.Proofs.YtoadcnhcfodkgaaGreatDoor
