/-
  frame.Wrap, the code's and the document's, is one function, for the seat YtoadcnhcfodkgaaGreatDoor.
-/
import Derived.Test.YtoadcnhcfodkgaaGreatDoorNWrap
import Derived.Test.YtoadcnhcfodkgaaGreatDoorCwC
namespace Go.Proofs.YtoadcnhcfodkgaaGreatDoor
open Go.RowKit

theorem ofNat_toNatA {n : Nat} (h : n < 256) : (UInt8.ofNat n).toNat = n := by
  rw [UInt8.toNat_ofNat']
  omega
def wrapA (x : Fra) : ByteArray × Bool := if 0 ≤ x.1 ∧ x.1 ≤ 255 ∧ x.2.size ≤ 64 then (⟨(wrapL (UInt8.ofNat x.1.toNat) x.2.data.toList).toArray⟩, true) else (noBytes, false)
theorem wrapA_ok : PureOk Tryz.prog 58 (lone' cFra) wrapA (two' cS cB) := fun x w _ => by
  by_cases h : 0 ≤ x.1 ∧ x.1 ≤ 255 ∧ x.2.size ≤ 64
  · have e : ((UInt8.ofNat x.1.toNat).toNat : Int) = x.1 := by
      rw [ofNat_toNatA (by omega)]
      omega
    have h1 := wrap_yes (UInt8.ofNat x.1.toNat) x.2 w h.2.2
    rw [e] at h1
    refine Calls.mono h1 ?_
    rintro _ w' ⟨s, rfl, hs, hb⟩
    refine ⟨?_, hb⟩
    have hs : s = ⟨(wrapL (UInt8.ofNat x.1.toNat) x.2.data.toList).toArray⟩ := by
      rw [← hs]
    unfold wrapA
    rw [if_pos h, hs]
    rfl
  · refine Calls.mono (wrap_no x.1 x.2 w h) ?_
    rintro _ w' ⟨rfl, hb⟩
    refine ⟨?_, hb⟩
    unfold wrapA
    rw [if_neg h]
    rfl
theorem rwrapA_ok : PureOk Tryz.prog 35 (lone' cFra) wrapA (two' cS cB) := fun x w _ => by
  by_cases h : 0 ≤ x.1 ∧ x.1 ≤ 255 ∧ x.2.size ≤ 64
  · have e : ((UInt8.ofNat x.1.toNat).toNat : Int) = x.1 := by
      rw [ofNat_toNatA (by omega)]
      omega
    have h1 := rwrap_yes (UInt8.ofNat x.1.toNat) x.2 w h.2.2
    rw [e] at h1
    refine Calls.mono h1 ?_
    rintro _ w' ⟨s, rfl, hs, hb⟩
    refine ⟨?_, hb⟩
    have hs : s = ⟨(wrapL (UInt8.ofNat x.1.toNat) x.2.data.toList).toArray⟩ := by
      rw [← hs]
    unfold wrapA
    rw [if_pos h, hs]
    rfl
  · refine Calls.mono (rwrap_no x.1 x.2 w h) ?_
    rintro _ w' ⟨rfl, hb⟩
    refine ⟨?_, hb⟩
    unfold wrapA
    rw [if_neg h]
    rfl
theorem wrap_both : PureOk Tryz.prog 58 (lone' cFra) wrapA (two' cS cB) ∧ PureOk Tryz.prog 35 (lone' cFra) wrapA (two' cS cB) := ⟨wrapA_ok, rwrapA_ok⟩
end Go.Proofs.YtoadcnhcfodkgaaGreatDoor
