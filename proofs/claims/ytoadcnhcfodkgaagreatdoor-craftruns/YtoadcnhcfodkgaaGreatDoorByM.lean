/-
  Strings made of bytes, as lists of numbers, for the seat YtoadcnhcfodkgaaGreatDoor. No Go text in sight.
-/
import Derived.Test.YtoadcnhcfodkgaaGreatDoorSenByte
namespace Go.Proofs.YtoadcnhcfodkgaaGreatDoor
open Go.RowKit

theorem wrap8_in (x : Int) : 0 ≤ IntKind.u8.wrap x ∧ IntKind.u8.wrap x < 256 := by
  rw [IntKind.wrap_u8]
  omega
theorem bt_strOf {l : List Int} (h : ∀ b ∈ l, 0 ≤ b ∧ b < 256) (i : Nat) (hi : i < l.length) : ((bt (strOf l) i : Nat) : Int) = l[i] := by
  have hb := h l[i] (List.getElem_mem hi)
  have e : (strOf l).data.toList = l.map fun b => UInt8.ofNat b.toNat := rfl
  unfold bt
  rw [e, List.getD_eq_getElem?_getD, List.getElem?_map, List.getElem?_eq_getElem hi]
  simp
  omega
theorem size_strOf (l : List Int) : (strOf l).size = l.length := by
  show (l.map _).length = _
  rw [List.length_map]
theorem strOf_is {l : List Int} {s : ByteArray} (hl : l.length = s.size) (h : ∀ i (hi : i < l.length), l[i] = ((bt s i : Nat) : Int)) : strOf l = s := by
  refine ByteArray.ext (Array.toList_inj.1 (List.ext_getElem ?_ ?_))
  · show (l.map _).length = _
    rw [List.length_map, hl]
    rfl
  · intro i h1 h2
    have hi : i < l.length := by
      have : (l.map fun b => UInt8.ofNat b.toNat).length = l.length := List.length_map _
      have h1' : i < (l.map fun b => UInt8.ofNat b.toNat).length := h1
      omega
    show (l.map fun b => UInt8.ofNat b.toNat)[i]'(by rw [List.length_map]; exact hi) = _
    rw [List.getElem_map, h i hi, Int.toNat_natCast]
    unfold bt
    rw [List.getD_eq_getElem?_getD, List.getElem?_eq_getElem h2]
    simp
end Go.Proofs.YtoadcnhcfodkgaaGreatDoor
