/-
  Counts and ticks out of bytes: pair, signed, plain, joined, countsOf, bounds, Fresh; the reference's count, signed, Fresh, walked, for the seat YtoadcnhcfodkgaaGreatDoor.
-/
import Derived.Test.YtoadcnhcfodkgaaGreatDoorProg
import Derived.Test.YtoadcnhcfodkgaaGreatDoorSenM
import Derived.Test.YtoadcnhcfodkgaaGreatDoorVMem
import Derived.WalkKit
import Derived.WalkLawsBesides
import Derived.WalkSpells
import Derived.RegionTactic
import Derived.BigRegion
namespace Go.Proofs.YtoadcnhcfodkgaaGreatDoor
open Go.RowKit

theorem idx_run {s : ByteArray} {i : Int} {n : Nat} (h : n < s.size) (hi : i = n) (W : World) : (Instr.index 9 (.string s) (.int .i64 i)).run Tryz.prog W = .ok (.int .u8 (bt s n : Nat)) W := by
  rw [run_index_string W 9 s .i64 i Tryz.underlying9, dif_pos (by omega)]
  have : i.toNat = n := by omega
  simp only [this, bt_of h]
theorem bel_drew {n : Nat} {x w : World} (h : Below n x w) : Below n x w.drew := ⟨h.os, h.tape, h.output, h.size, h.block⟩
set_option maxHeartbeats 1000000 in
set_option maxRecDepth 100000 in
theorem spair_any (s : ByteArray) (i : Int) (p : Nat) (w : World) (hi : i = p) (h : 2 * p + 1 < s.size) (hp : p < 100) :
    Calls Tryz.prog 285 #[.string s, .int .i64 i] w fun e w' => e = .returned (.int .u16 (cnt s (2 * p) : Nat)) ∧ Below w.heap.size w w' := by
  subst hi
  have i0 := idx_run (s := s) (i := 2 * (p : Int)) (n := 2 * p) (by omega) (by omega)
  have i1 := idx_run (s := s) (i := 2 * (p : Int) + 1) (n := 2 * p + 1) (by omega) (by omega)
  have b0 := bt_lt s (2 * p)
  have b1 := bt_lt s (2 * p + 1)
  have HC : Hid (cnt s (2 * p) = bt s (2 * p) * 256 + bt s (2 * p + 1)) := rfl
  have w2 : IntKind.i64.wrap (2 * (p : Int)) = 2 * (p : Int) := by rw [IntKind.wrap_i64]; omega
  have w3 : IntKind.i64.wrap (2 * (p : Int) + 1) = 2 * (p : Int) + 1 := by rw [IntKind.wrap_i64]; omega
  generalize bt s (2 * p) = a at i0 b0 HC
  generalize bt s (2 * p + 1) = b at i1 b1 HC
  have ho := or16 b0 b1
  rw [HC.out]
  go_enter Tryz.func285, Tryz.ntmps285
  go_wp2
  go_region
  go_wp2
  go_ret
  exact ⟨by have e : ((a * 256 + b : Nat) : Int) = (a : Int) * 256 + b := by omega
            rw [e]; rfl, bel_drew (Below.refl _ _)⟩
set_option maxHeartbeats 1000000 in
set_option maxRecDepth 100000 in
theorem ssigned_any (s : ByteArray) (i : Int) (p : Nat) (w : World) (hi : i = p) (h : 2 * p + 1 < s.size) (hp : p < 100) :
    Calls Tryz.prog 281 #[.string s, .int .i64 i] w fun e w' => e = .returned (.int .i64 (sg (cnt s (2 * p)))) ∧ Below w.heap.size w w' := by
  subst hi
  have hc := fun W => spair_any s p p W rfl h hp
  have hl := cnt_lt s (2 * p)
  generalize cnt s (2 * p) = n at hc hl ⊢
  have HS : Hid (sg n = if 32768 ≤ n then (n : Int) - 65536 else n) := rfl
  have e16 : IntKind.i16.wrap (n : Int) = sg n := by
    rw [HS.out]
    simp [IntKind.wrap, IntKind.bits, IntKind.signed]
    split <;> split <;> omega
  have hr := sg_rng hl
  have e64 : IntKind.i64.wrap (sg n) = sg n := by rw [IntKind.wrap_i64]; omega
  go_enter Tryz.func281, Tryz.ntmps281
  go_wp2_with (go_at_call 285; refine (hc _).mono ?_; rintro e w1 ⟨rfl, hb1⟩)
  go_ret
  exact ⟨rfl, hb1⟩
set_option maxHeartbeats 1000000 in
set_option maxRecDepth 100000 in
theorem splain_any (s : ByteArray) (i : Int) (p : Nat) (w : World) (hi : i = p) (h : 2 * p + 1 < s.size) (hp : p < 100) :
    Calls Tryz.prog 282 #[.string s, .int .i64 i] w fun e w' => e = .returned (.int .i64 (cnt s (2 * p) : Nat)) ∧ Below w.heap.size w w' := by
  subst hi
  have hc := fun W => spair_any s p p W rfl h hp
  have hl := cnt_lt s (2 * p)
  generalize cnt s (2 * p) = n at hc hl ⊢
  go_enter Tryz.func282, Tryz.ntmps282
  go_wp2_with (go_at_call 285; refine (hc _).mono ?_; rintro e w1 ⟨rfl, hb1⟩)
  go_ret
  exact ⟨rfl, hb1⟩
set_option maxHeartbeats 1000000 in
set_option maxRecDepth 100000 in
theorem sjoined_any (s : ByteArray) (w : World) (h : s.size = 6) :
    Calls Tryz.prog 199 #[.string s] w fun e w' => e = .returned (.int .i64 (tickS s)) ∧ Below w.heap.size w w' := by
  go_enter Tryz.func199, Tryz.ntmps199
  go_wp2
  go_loop [3, 5] (fun r i => ∃ k : Nat, k ≤ 6 ∧ i = .int .i64 k ∧ r = .int .i64 (tickK s k : Nat)) (fun _ i => 6 - (intOf i).toNat)
  case atStart => exact ⟨0, by omega, rfl, rfl⟩
  case round =>
    obtain ⟨k, hk, rfl, rfl⟩ := hrel
    by_cases c : k < 6
    · have hi := idx_run (s := s) (i := (k : Int)) (n := k) (by omega) rfl
      have hb := bt_lt s k
      have ht : tickK s k < 1099511627776 := Nat.lt_of_lt_of_le (tickK_lt s k) (show 256 ^ k ≤ 256 ^ 5 from Nat.pow_le_pow_right (by decide) (by omega))
      have HT : Hid (tickK s (k + 1) = tickK s k * 256 + bt s k) := rfl
      generalize tickK s k = t at ht HT ⊢
      generalize bt s k = b at hi hb HT
      have ho := or64 ht hb
      go_wp2
      go_round
      case rel => exact ⟨k + 1, by omega, by go_num, by rw [HT.out]; show _ = Value.int .i64 ((t * 256 + b : Nat) : Int); rw [show ((t * 256 + b : Nat) : Int) = (t : Int) * 256 + b by omega]⟩
      case measure => simp [intOf]; omega
    · obtain rfl : k = 6 := by omega
      have HT : Hid (tickS s = (tickK s 6 : Nat)) := rfl
      generalize tickK s 6 = t at HT ⊢
      go_wp2
      go_ret
      exact ⟨by rw [HT.out]; rfl, Below.refl _ _⟩
def nCounts (k : Int) : Int := if k = 1 ∨ k = 3 then 3 else if k = 2 then 6 else 0
set_option maxHeartbeats 1000000 in
theorem scounts_any (k : Int) (w : World) : Calls Tryz.prog 198 #[.int .i64 k] w fun e w' => e = .returned (.int .i64 (nCounts k)) ∧ w = w' := by
  by_cases c1 : k = 1
  · subst c1
    go_enter Tryz.func198, Tryz.ntmps198
    go_wp2
    go_ret
    exact ⟨rfl, rfl⟩
  by_cases c3 : k = 3
  · subst c3
    go_enter Tryz.func198, Tryz.ntmps198
    go_wp2
    go_ret
    exact ⟨rfl, rfl⟩
  by_cases c2 : k = 2
  · subst c2
    go_enter Tryz.func198, Tryz.ntmps198
    go_wp2
    go_ret
    exact ⟨rfl, rfl⟩
  have e : nCounts k = 0 := by unfold nCounts; rw [if_neg (by omega), if_neg (by omega)]
  have d1 : (k == 1) = false := by simpa using c1
  have d2 : (k == 2) = false := by simpa using c2
  have d3 : (k == 3) = false := by simpa using c3
  rw [e]
  go_enter Tryz.func198, Tryz.ntmps198
  go_wp2
  go_ret
  exact ⟨rfl, rfl⟩
def nBounds (k : Int) : Int × Int := if k = 2 then (0, 65535) else (-32768, 32767)
/-- Young enough. -/
def freshS (t n : Int) : Bool := decide (t ≤ n) && decide (n - t ≤ 500)
set_option maxHeartbeats 1000000 in
set_option maxRecDepth 100000 in
theorem sfresh_any (k t x y z n : Int) (w : World) (ht : -9223372036854775808 ≤ t ∧ t ≤ 9223372036854775807) (hn : -9223372036854775808 ≤ n ∧ n ≤ 9223372036854775807) :
    Calls Tryz.prog 115 #[.agg #[.int .i64 k, .int .i64 t, .int .i64 x, .int .i64 y, .int .i64 z], .int .i64 n] w fun e w' => e = .returned (.bool (freshS t n)) ∧ Below w.heap.size w w' := by
  have hw : IntKind.u64.wrap (IntKind.u64.wrap n - IntKind.u64.wrap t) = (n - t) % 18446744073709551616 := by
    rw [IntKind.wrap_u64, IntKind.wrap_u64, IntKind.wrap_u64]
    omega
  by_cases c : t ≤ n
  · have hd : decide (IntKind.u64.wrap (IntKind.u64.wrap n - IntKind.u64.wrap t) ≤ 500) = freshS t n := by
      rw [hw, show (n - t) % 18446744073709551616 = n - t by omega]
      unfold freshS
      simp [c]
    have HD : Hid _ := hd
    clear hd hw
    go_enter Tryz.func115, Tryz.ntmps115
    go_wp2
    go_ret
    exact ⟨by rw [← HD.out]; rfl, (Below.refl _ w).alloc (Nat.le_refl _) _⟩
  · have hd : freshS t n = false := by unfold freshS; simp [c]
    rw [hd]
    clear hd hw
    go_enter Tryz.func115, Tryz.ntmps115
    go_wp2
    go_ret
    exact ⟨rfl, (Below.refl _ w).alloc (Nat.le_refl _) _⟩
set_option maxHeartbeats 1000000 in
set_option maxRecDepth 100000 in
theorem rfresh_any (k t x y z n : Int) (w : World) (ht : -9223372036854775808 ≤ t ∧ t ≤ 9223372036854775807) (hn : -9223372036854775808 ≤ n ∧ n ≤ 9223372036854775807) :
    Calls Tryz.prog 62 #[.agg #[.int .i64 k, .int .i64 t, .int .i64 x, .int .i64 y, .int .i64 z], .int .i64 n] w fun e w' => e = .returned (.bool (freshS t n)) ∧ Below w.heap.size w w' := by
  have hw : IntKind.u64.wrap (IntKind.u64.wrap n - IntKind.u64.wrap t) = (n - t) % 18446744073709551616 := by
    rw [IntKind.wrap_u64, IntKind.wrap_u64, IntKind.wrap_u64]
    omega
  by_cases c : t ≤ n
  · have hd : decide (IntKind.u64.wrap (IntKind.u64.wrap n - IntKind.u64.wrap t) ≤ 500) = freshS t n := by
      rw [hw, show (n - t) % 18446744073709551616 = n - t by omega]
      unfold freshS
      simp [c]
    have HD : Hid _ := hd
    clear hd hw
    go_enter Tryz.func62, Tryz.ntmps62
    go_wp2
    go_ret
    exact ⟨by rw [← HD.out]; rfl, (Below.refl _ w).alloc (Nat.le_refl _) _⟩
  · have hd : freshS t n = false := by unfold freshS; simp [c]
    rw [hd]
    clear hd hw
    go_enter Tryz.func62, Tryz.ntmps62
    go_wp2
    go_ret
    exact ⟨rfl, (Below.refl _ w).alloc (Nat.le_refl _) _⟩
set_option maxHeartbeats 1000000 in
set_option maxRecDepth 100000 in
theorem rcount_any (s : ByteArray) (i : Int) (p : Nat) (w : World) (hi : i = p) (h : p + 1 < s.size) (hp : p < 100) :
    Calls Tryz.prog 176 #[.string s, .int .i64 i] w fun e w' => e = .returned (.int .i64 (cnt s p : Nat)) ∧ Below w.heap.size w w' := by
  subst hi
  have i0 := idx_run (s := s) (i := (p : Int)) (n := p) (by omega) (by omega)
  have i1 := idx_run (s := s) (i := (p : Int) + 1) (n := p + 1) (by omega) (by omega)
  have b0 := bt_lt s p
  have b1 := bt_lt s (p + 1)
  have HC : Hid (cnt s p = bt s p * 256 + bt s (p + 1)) := rfl
  have w3 : IntKind.i64.wrap ((p : Int) + 1) = (p : Int) + 1 := by rw [IntKind.wrap_i64]; omega
  generalize bt s p = a at i0 b0 HC
  generalize bt s (p + 1) = b at i1 b1 HC
  have w4 : IntKind.i64.wrap ((a : Int) * 256) = (a : Int) * 256 := by rw [IntKind.wrap_i64]; omega
  have w5 : IntKind.i64.wrap ((a : Int) * 256 + b) = (a : Int) * 256 + b := by rw [IntKind.wrap_i64]; omega
  rw [HC.out]
  go_enter Tryz.func176, Tryz.ntmps176
  go_wp2
  go_region
  go_wp2
  go_ret
  exact ⟨by have e : ((a * 256 + b : Nat) : Int) = (a : Int) * 256 + b := by omega
            rw [e]; rfl, bel_drew (Below.refl _ _)⟩
set_option maxHeartbeats 1000000 in
set_option maxRecDepth 100000 in
theorem rsigned_any (s : ByteArray) (i : Int) (p : Nat) (w : World) (hi : i = p) (h : p + 1 < s.size) (hp : p < 100) :
    Calls Tryz.prog 175 #[.string s, .int .i64 i] w fun e w' => e = .returned (.int .i64 (sg (cnt s p))) ∧ Below w.heap.size w w' := by
  subst hi
  have hc := fun W => rcount_any s p p W rfl h hp
  have hl := cnt_lt s p
  generalize cnt s p = n at hc hl ⊢
  have hs : sg n = if 32768 ≤ (n : Int) then (n : Int) - 65536 else n := by
    unfold sg
    split <;> split <;> omega
  have hz : 0 ≤ (n : Int) ∧ (n : Int) < 65536 := by omega
  rw [hs]
  clear hs hl
  generalize (n : Int) = z at hc hz ⊢
  by_cases c : 32768 ≤ z
  · rw [if_pos c]
    go_enter Tryz.func175, Tryz.ntmps175
    go_wp2_with (go_at_call 176; refine (hc _).mono ?_; rintro e w1 ⟨rfl, hb1⟩)
    go_ret
    exact ⟨rfl, hb1⟩
  · rw [if_neg c]
    go_enter Tryz.func175, Tryz.ntmps175
    go_wp2_with (go_at_call 176; refine (hc _).mono ?_; rintro e w1 ⟨rfl, hb1⟩)
    go_ret
    exact ⟨rfl, hb1⟩
end Go.Proofs.YtoadcnhcfodkgaaGreatDoor
