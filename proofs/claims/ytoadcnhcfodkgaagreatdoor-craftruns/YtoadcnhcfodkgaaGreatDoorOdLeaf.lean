/-
  Orders: the small functions, walked, for the seat YtoadcnhcfodkgaaGreatDoor. (Made by mkod.py.)
-/
import Derived.Test.YtoadcnhcfodkgaaGreatDoorOdM
import Derived.Test.YtoadcnhcfodkgaaGreatDoorVLoop
import Derived.Test.YtoadcnhcfodkgaaGreatDoorStop
import Derived.Handy
namespace Go.Proofs.YtoadcnhcfodkgaaGreatDoor
open Go.RowKit

set_option maxHeartbeats 1000000 in
theorem sizeOf_any (c : Int) (w : World) : Calls Tryz.prog 201 #[.int .i64 c] w fun e w' => e = .returned (.int .i64 (sizeS c)) ∧ w = w' := by
  by_cases h1 : c = 1
  · subst h1
    go_enter Tryz.func201, Tryz.ntmps201
    go_wp2
    go_ret
    exact ⟨rfl, rfl⟩
  by_cases h2 : c = 2
  · subst h2
    go_enter Tryz.func201, Tryz.ntmps201
    go_wp2
    go_ret
    exact ⟨rfl, rfl⟩
  by_cases h4 : c = 4
  · subst h4
    go_enter Tryz.func201, Tryz.ntmps201
    go_wp2
    go_ret
    exact ⟨rfl, rfl⟩
  by_cases h3 : c = 3
  · subst h3
    go_enter Tryz.func201, Tryz.ntmps201
    go_wp2
    go_ret
    exact ⟨rfl, rfl⟩
  have e : sizeS c = 0 := by unfold sizeS; rw [if_neg (by omega), if_neg h3]
  rw [e]
  go_enter Tryz.func201, Tryz.ntmps201
  go_wp2
  go_ret
  exact ⟨rfl, rfl⟩
set_option maxHeartbeats 1000000 in
theorem refused_any (q c : Int) (o : V7) (x : Int) (w : World) : Calls Tryz.prog 202 #[.agg #[.int .i64 q, .int .i64 c, .int .i64 o.1, .int .i64 o.2.1, .int .i64 o.2.2.1, .int .i64 o.2.2.2.1, .int .i64 o.2.2.2.2.1, .int .i64 o.2.2.2.2.2.1, .int .i64 o.2.2.2.2.2.2], .int .i64 x] w fun e w' => e = .returned (.tuple #[.agg #[.int .i64 q, .int .i64 0, .int .i64 0, .int .i64 0, .int .i64 0, .int .i64 0, .int .i64 0, .int .i64 0, .int .i64 0], .int .i64 x]) ∧ Below w.heap.size w w' := by
  go_enter Tryz.func202, Tryz.ntmps202
  go_wp2_with (with_reducible refine post_stop ?_)
  refine ⟨bodyPost_ret (v := .tuple #[.agg #[.int .i64 q, .int .i64 0, .int .i64 0, .int .i64 0, .int .i64 0, .int .i64 0, .int .i64 0, .int .i64 0, .int .i64 0], .int .i64 x]) (by simp [results_cell_tmp Tryz.results202, asAddr, go_sem]) rfl ⟨rfl, ?_⟩⟩
  exact bel_al (bel_al (Below.refl _ _) _) _
theorem or64u {a b : Nat} (ha : a < 72057594037927936) (hb : b < 256) : bits .or .u64 ((a : Int) * 256) (b : Int) = ((a * 256 + b : Nat) : Int) := by
  rw [show (a : Int) * 256 = ((a * 256 : Nat) : Int) by omega]
  show IntKind.u64.wrap ((BitVec.ofInt 64 ((a * 256 : Nat) : Int) ||| BitVec.ofInt 64 (b : Int)).toNat : Int) = _
  have e := Nat.two_pow_add_eq_or_of_lt (i := 8) (show b < 2 ^ 8 by omega) a
  rw [BitVec.toNat_or, ofInt_u64 _ (by omega), ofInt_u64 b (by omega), show a * 256 = 2 ^ 8 * a by omega, ← e]
  rw [IntKind.wrap_u64]
  omega
set_option maxHeartbeats 1000000 in
set_option maxRecDepth 100000 in
theorem joined_any (s : ByteArray) (w : World) (h : 8 ≤ s.size) :
    Calls Tryz.prog 263 #[.string s] w fun e w' => e = .returned (.int .i64 (onumS s 0)) ∧ w = w' := by
  go_enter Tryz.func263, Tryz.ntmps263
  go_wp2
  go_loop [3, 5] (fun r i => ∃ k : Nat, k ≤ 8 ∧ i = .int .i64 k ∧ r = .int .u64 (numK s 0 k : Nat)) (fun _ i => 8 - (intOf i).toNat)
  case atStart => exact ⟨0, by omega, rfl, rfl⟩
  case round =>
    obtain ⟨k, hk, rfl, rfl⟩ := hrel
    by_cases c : k < 8
    · have hi := idx_run (s := s) (i := (k : Int)) (n := k) (by omega) rfl
      have hb := bt_lt s k
      have ht : numK s 0 k < 72057594037927936 := Nat.lt_of_lt_of_le (numK_lt s 0 k) (show 256 ^ k ≤ 256 ^ 7 from Nat.pow_le_pow_right (by decide) (by omega))
      have HT : Hid (numK s 0 (k + 1) = numK s 0 k * 256 + bt s k) := by show numK s 0 k * 256 + bt s (0 + k) = _; rw [Nat.zero_add]
      generalize numK s 0 k = t at ht HT ⊢
      generalize bt s k = b at hi hb HT
      have ho := or64u ht hb
      go_wp2
      go_round
      case rel => exact ⟨k + 1, by omega, by go_num, by rw [HT.out]; show _ = Value.int .u64 ((t * 256 + b : Nat) : Int); rw [show ((t * 256 + b : Nat) : Int) = (t : Int) * 256 + b by omega]⟩
      case measure => simp [intOf]; omega
    · obtain rfl : k = 8 := by omega
      have HT : Hid (onumS s 0 = IntKind.i64.wrap (numK s 0 8 : Nat)) := rfl
      have hl := numK_lt s 0 8
      generalize numK s 0 8 = t at HT hl ⊢
      go_wp2
      go_ret
      exact ⟨by rw [HT.out, IntWalk.i64_left]; rfl, rfl⟩
set_option maxHeartbeats 1000000 in
set_option maxRecDepth 100000 in
/-- What 'at' in elements answers. -/
theorem elAt_any (p : Nat) (hp : p < 7) (s : ByteArray) (k : Nat) (w : World) (hs : s.size = 56) (hc : w.cell? ⟨k, 0, none⟩ = some (.string s)) :
    Calls Tryz.prog 262 #[.int .i64 p, .pointer (some ⟨k, 0, none⟩)] w fun e w' => e = .returned (.int .i64 (onumS s (8 * p))) ∧ w = w' := by
  have hj := fun W => joined_any (s.extract (8 * p) s.size) W (by rw [ByteArray.size_extract]; omega)
  rw [numS_tail, Nat.add_zero] at hj
  have hsl : ∀ W : World, (Instr.slice 9 (.string s) (some (.int .i64 ((p : Int) * 8))) none none).run Tryz.prog W = .ok (.string (s.extract (8 * p) s.size)) W := fun W => by
    rw [run_slice_string_from_if W 9 s .i64 ((p : Int) * 8) Tryz.underlying9, if_pos (by omega), show ((p : Int) * 8).toNat = 8 * p by omega]
  generalize s.extract (8 * p) s.size = y at *
  generalize onumS s (8 * p) = x at *
  go_enter Tryz.func262, Tryz.ntmps262
  go_wp2_with (go_at_call 263; refine (hj _).mono ?_; rintro e X ⟨rfl, rfl⟩)
  go_ret
  exact ⟨rfl, rfl⟩
end Go.Proofs.YtoadcnhcfodkgaaGreatDoor
