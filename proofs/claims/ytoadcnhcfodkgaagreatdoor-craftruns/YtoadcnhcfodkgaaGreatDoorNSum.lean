/-
  Sums of bytes, the code's and the reference's, walked, for the seat YtoadcnhcfodkgaaGreatDoor.
-/
import Derived.Test.YtoadcnhcfodkgaaGreatDoorProg
import Derived.Test.YtoadcnhcfodkgaaGreatDoorCrcB
import Derived.WalkKit
import Derived.WalkLawsBesides
import Derived.Laws.BitsAllLaws
namespace Go.Proofs.YtoadcnhcfodkgaaGreatDoor
open Go.RowKit

/-- The register behind k shifts. -/
def crcBits : Nat → Nat → Nat
  | 0, r => r
  | k + 1, r => crcBit (crcBits k r)
theorem crcBits_lt {r : Nat} (h : r < 65536) : ∀ k, crcBits k r < 65536
  | 0 => h
  | k + 1 => crcBit_lt (crcBits_lt h k)
/-- The register behind k bytes. -/
def sumK (l : List UInt8) (k : Nat) : Nat := crcOf 65535 ((l.take k).map UInt8.toNat)
theorem sumK_lt (l : List UInt8) (k : Nat) : sumK l k < 65536 := sumU_lt (l.take k)

theorem u16_byte {r b : Nat} (hr : r < 65536) (hb : b < 256) : bits .xor .u16 (r : Int) ((b : Int) * 256) = ((r ^^^ b * 256 : Nat) : Int) := by
  rw [show (b : Int) * 256 = ((b * 256 : Nat) : Int) by omega, u16_xor_nat r (b * 256) hr (by omega)]
theorem u16_one {x : Nat} (hx : x < 65536) (h : ((x : Int) / 32768 == 1) = true) : bits .xor .u16 (IntKind.u16.wrap ((x : Int) * 2)) 4129 = (crcBit x : Nat) := by
  have h : (x : Int) / 32768 = 1 := by simpa using h
  rw [IntKind.wrap_u16, show ((x : Int) * 2) % 65536 = ((2 * x - 65536 : Nat) : Int) by omega]
  unfold crcBit
  rw [if_pos (by omega)]
  exact u16_xor_nat _ 4129 (by omega) (by decide)
theorem u16_none {x : Nat} (hx : x < 65536) (h : ((x : Int) / 32768 == 1) = false) : IntKind.u16.wrap ((x : Int) * 2) = (crcBit x : Nat) := by
  have h : ¬ (x : Int) / 32768 = 1 := by simpa using h
  rw [IntKind.wrap_u16]
  unfold crcBit
  rw [if_neg (by omega)]
  omega
theorem u16_one' {x : Nat} (hx : x < 65536) (h : 32768 ≤ (x : Int)) : bits .xor .u16 (IntKind.u16.wrap ((x : Int) * 2)) 4129 = (crcBit x : Nat) :=
  u16_one hx (by rw [show (x : Int) / 32768 = 1 by omega]; rfl)
theorem u16_none' {x : Nat} (h : ¬ 32768 ≤ (x : Int)) : (x : Int) * 2 = (crcBit x : Nat) := by
  unfold crcBit
  rw [if_neg (by omega)]
  omega
theorem sumK_succ {s : ByteArray} {k b : Nat} (h : k < s.size) (hb : (s[k]'h).toNat = b) : sumK s.data.toList (k + 1) = crcBits 8 (sumK s.data.toList k ^^^ b * 256) := by
  have hl : k < s.data.toList.length := h
  have e : s.data.toList.take (k + 1) = s.data.toList.take k ++ [s[k]'h] := by
    rw [List.take_succ_eq_append_getElem hl]
    rfl
  unfold sumK crcOf
  rw [e, List.map_append, List.foldl_append, List.map_cons, List.map_nil, List.foldl_cons, List.foldl_nil, hb]
  unfold crcByte
  simp only [crcBits]
theorem sumK_all (s : ByteArray) : sumK s.data.toList s.size = sumU s.data.toList := by
  unfold sumK sumU
  rw [List.take_of_length_le (l := s.data.toList) (i := s.size) (Nat.le_refl _)]

set_option maxHeartbeats 1000000 in
set_option maxRecDepth 100000 in
/-- frame.Sum. -/
theorem sum_any (s : ByteArray) (w : World) (hs : s.size ≤ 5000) :
    Calls Tryz.prog 173 #[.string s] w fun e w' => e = .returned (.int .u16 (sumU s.data.toList : Nat)) ∧ w = w' := by
  go_enter Tryz.func173, Tryz.ntmps173
  go_wp2
  go_loop [3, 8] (fun r i => ∃ k : Nat, k ≤ s.size ∧ i = .int .i64 k ∧ r = .int .u16 (sumK s.data.toList k : Nat)) (fun _ i => s.size - (intOf i).toNat)
  case atStart => exact ⟨0, Nat.zero_le _, rfl, rfl⟩
  case round =>
    obtain ⟨k, hk, rfl, rfl⟩ := hrel
    have hlt := sumK_lt s.data.toList k
    obtain ⟨r, hr⟩ : ∃ r, r = sumK s.data.toList k := ⟨_, rfl⟩
    rw [← hr] at hlt ⊢
    have HK : Hid (r = sumK s.data.toList k) := hr
    clear hr
    by_cases hkl : k < s.size
    · obtain ⟨b, hb⟩ : ∃ b, (s[k]'hkl).toNat = b := ⟨_, rfl⟩
      have hb8 : b < 256 := by rw [← hb]; exact (s[k]'hkl).toNat_lt
      obtain ⟨R, hR⟩ : ∃ R, R = r ^^^ b * 256 := ⟨_, rfl⟩
      have hRl : R < 65536 := by rw [hR]; exact xor_16 hlt (by omega)
      have e1 := u16_byte hlt hb8
      rw [← hR] at e1
      have HR : Hid (R = r ^^^ b * 256) := hR
      clear hR
      go_wp2
      go_loop [3, 18] (fun v j => ∃ n : Nat, n ≤ 8 ∧ j = .int .i64 n ∧ v = .int .u16 (crcBits n R : Nat)) (fun _ j => 8 - (intOf j).toNat)
      case atStart => exact ⟨0, by omega, rfl, rfl⟩
      case round =>
        obtain ⟨n, hn, rfl, rfl⟩ := hrel
        have hx := crcBits_lt hRl n
        obtain ⟨x, hxe⟩ : ∃ x, x = crcBits n R := ⟨_, rfl⟩
        rw [← hxe] at hx ⊢
        have HX : Hid (x = crcBits n R) := hxe
        clear hxe
        go_wp2
        · go_round
          case rel => exact ⟨n + 1, by omega, by go_num, by rw [u16_one hx (by assumption)]; show _ = Value.int .u16 (crcBit (crcBits n R) : Nat); rw [HX.out]⟩
          case measure => simp [intOf]; omega
        · go_round
          case rel => exact ⟨n + 1, by omega, by go_num, by rw [u16_none hx (by assumption)]; show _ = Value.int .u16 (crcBit (crcBits n R) : Nat); rw [HX.out]⟩
          case measure => simp [intOf]; omega
        · go_round
          case rel =>
            obtain rfl : n = 8 := by omega
            exact ⟨k + 1, by omega, by go_num, by rw [sumK_succ hkl hb, HX.out, HR.out, HK.out]⟩
          case measure => simp [intOf]; omega
    · go_wp2
      obtain rfl : k = s.size := by omega
      go_ret
      exact ⟨by rw [HK.out, sumK_all]; rfl, rfl⟩
set_option maxHeartbeats 1000000 in
set_option maxRecDepth 100000 in
/-- alidaderef11.Sum. -/
theorem rsum_any (s : ByteArray) (w : World) (hs : s.size ≤ 5000) :
    Calls Tryz.prog 110 #[.string s] w fun e w' => e = .returned (.int .u16 (sumU s.data.toList : Nat)) ∧ w = w' := by
  go_enter Tryz.func110, Tryz.ntmps110
  go_wp2
  go_loop [3, 4] (fun r i => ∃ k : Nat, k ≤ s.size ∧ i = .int .i64 k ∧ r = .int .u16 (sumK s.data.toList k : Nat)) (fun _ i => s.size - (intOf i).toNat)
  case atStart => exact ⟨0, Nat.zero_le _, rfl, rfl⟩
  case round =>
    obtain ⟨k, hk, rfl, rfl⟩ := hrel
    have hlt := sumK_lt s.data.toList k
    obtain ⟨r, hr⟩ : ∃ r, r = sumK s.data.toList k := ⟨_, rfl⟩
    rw [← hr] at hlt ⊢
    have HK : Hid (r = sumK s.data.toList k) := hr
    clear hr
    by_cases hkl : k < s.size
    · obtain ⟨b, hb⟩ : ∃ b, (s[k]'hkl).toNat = b := ⟨_, rfl⟩
      have hb8 : b < 256 := by rw [← hb]; exact (s[k]'hkl).toNat_lt
      obtain ⟨R, hR⟩ : ∃ R, R = r ^^^ b * 256 := ⟨_, rfl⟩
      have hRl : R < 65536 := by rw [hR]; exact xor_16 hlt (by omega)
      have e1 := u16_byte hlt hb8
      rw [← hR] at e1
      have HR : Hid (R = r ^^^ b * 256) := hR
      clear hR
      go_wp2
      go_loop [3, 5] (fun v j => ∃ n : Nat, n ≤ 8 ∧ j = .int .i64 n ∧ v = .int .u16 (crcBits n R : Nat)) (fun _ j => 8 - (intOf j).toNat)
      case atStart => exact ⟨0, by omega, rfl, rfl⟩
      case round =>
        obtain ⟨n, hn, rfl, rfl⟩ := hrel
        have hx := crcBits_lt hRl n
        obtain ⟨x, hxe⟩ : ∃ x, x = crcBits n R := ⟨_, rfl⟩
        rw [← hxe] at hx ⊢
        have HX : Hid (x = crcBits n R) := hxe
        clear hxe
        clear e1
        by_cases hn8 : n < 8
        · by_cases c : 32768 ≤ (x : Int)
          · go_wp2
            go_round
            case rel => exact ⟨n + 1, by omega, by go_num, by rw [u16_one' hx c]; show _ = Value.int .u16 (crcBit (crcBits n R) : Nat); rw [HX.out]⟩
            case measure => simp [intOf]; omega
          · go_wp2
            go_round
            case rel => exact ⟨n + 1, by omega, by go_num, by rw [u16_none' c]; show _ = Value.int .u16 (crcBit (crcBits n R) : Nat); rw [HX.out]⟩
            case measure => simp [intOf]; omega
        · go_wp2
          go_round
          case rel =>
            obtain rfl : n = 8 := by omega
            exact ⟨k + 1, by omega, by go_num, by rw [sumK_succ hkl hb, HX.out, HR.out, HK.out]⟩
          case measure => simp [intOf]; omega
    · go_wp2
      obtain rfl : k = s.size := by omega
      go_ret
      exact ⟨by rw [HK.out, sumK_all]; rfl, rfl⟩
end Go.Proofs.YtoadcnhcfodkgaaGreatDoor
