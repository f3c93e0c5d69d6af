/-
  The walks of the reference's small functions (alidaderef01), for the seat YtoadcnhcfodkgaaGreatDoor.
-/
import Derived.Test.YtoadcnhcfodkgaaGreatDoorFlow
import Derived.Handy
import Derived.Deep.RegionHeld3
import Derived.Deep.DrawnRows
namespace Go.Proofs.YtoadcnhcfodkgaaGreatDoor
open Go.RowKit
attribute [local go_sem ↓] Go.wp_at_zero Go.wp_at_succ

set_option maxHeartbeats 400000 in
theorem rnumber_any (a : Int) (w : World) :
    Calls Tryz.prog 179 #[.int .i64 a] w fun e w' => e = .returned (.bool (numB a)) ∧ w' = w := by
  go_enter Tryz.func179, Tryz.ntmps179
  go_wp2
  all_goals
    go_ret
    exact ⟨ret_bool (by unfold numB; simp; try omega), rfl⟩

set_option maxHeartbeats 400000 in
theorem radd_gen (a b c d : Int) (w : World) (h1 : 0 ≤ a ∧ a ≤ 18446744073709551615) (h2 : 0 ≤ b ∧ b ≤ 18446744073709551615) (h3 : 0 ≤ c ∧ c ≤ 18446744073709551615) (h4 : 0 ≤ d ∧ d ≤ 18446744073709551615)
    (hs : a * 18446744073709551616 + b + (c * 18446744073709551616 + d) ≤ 340282366920938463463374607431768211455) :
    Calls Tryz.prog 189 #[.agg #[.int .u64 a, .int .u64 b], .agg #[.int .u64 c, .int .u64 d]] w fun e w' => e = .returned (.agg #[.int .u64 (hi64 (a * 18446744073709551616 + b + (c * 18446744073709551616 + d))), .int .u64 (lo64 (a * 18446744073709551616 + b + (c * 18446744073709551616 + d)))]) ∧ Below w.heap.size w w' := by
  have HS : Hid _ := hs
  clear hs
  go_enter Tryz.func189, Tryz.ntmps189
  go_wp2
  all_goals
    rename_i hq
    go_returns
    refine ⟨ret_agg2 ?_ ?_, by go_grown⟩ <;> (have hs := HS.out; rw [IntKind.wrap_u64] at hq; simp only [IntKind.wrap_u64]; first | unfold hi64 | unfold lo64); all_goals omega
theorem radd_any (n m : Int) (w : World) (h0 : 0 ≤ n) (k0 : 0 ≤ m) (hs : n + m ≤ 340282366920938463463374607431768211455) :
    Calls Tryz.prog 189 #[.agg #[.int .u64 (hi64 n), .int .u64 (lo64 n)], .agg #[.int .u64 (hi64 m), .int .u64 (lo64 m)]] w fun e w' => e = .returned (.agg #[.int .u64 (hi64 (n + m)), .int .u64 (lo64 (n + m))]) ∧ Below w.heap.size w w' := by
  have e1 := hilo n
  have e2 := hilo m
  have := radd_gen (hi64 n) (lo64 n) (hi64 m) (lo64 m) w (hi64_bd n h0 (by omega)) (lo64_bd n) (hi64_bd m k0 (by omega)) (lo64_bd m) (by omega)
  rw [e1, e2] at this
  exact this
set_option maxHeartbeats 400000 in
theorem rsize_any (a : Int) (w : World) (h : numB a = true) :
    Calls Tryz.prog 190 #[.int .i64 a] w fun e w' => e = .returned (.int .u64 (sz a)) ∧ w' = w := by
  have hb := numB_bd h
  go_enter Tryz.func190, Tryz.ntmps190
  go_wp2
  all_goals
    go_ret
    exact ⟨ret_int (by unfold sz; split <;>  omega), rfl⟩


set_option maxHeartbeats 400000 in
theorem rgive_any (b : Nat) (n : Int) (minus : Bool) (w : World) (hw : Fl b false w) (h0 : 0 ≤ n) (h1 : n ≤ 18446744073709551615) :
    Calls Tryz.prog 184 #[.pointer (some ⟨b, 0, none⟩), .int .u64 n, .bool minus] w fun e w' => e = .returned (.int .i64 (out n minus).1) ∧ Fl b (out n minus).2 w' ∧ Kept b w w' := by
  show Calls Tryz.prog 184 _ _ fun e w' => e = .returned (.int .i64 (sgnd n minus)) ∧ Fl b (decide (4611686018427387904 < n)) w' ∧ Kept b w w'
  have HW : Hid _ := hw
  obtain ⟨hc, hf, hl⟩ := hw
  by_cases c : n ≤ 4611686018427387904
  · have HS : Hid _ := sgnd_in n minus c
    have HC : Hid (decide (4611686018427387904 < n) = false) := by show _ = _; simp; omega
    cases minus
    all_goals
      go_enter Tryz.func184, Tryz.ntmps184
      go_wp2
      go_ret
      rw [HC.out]
      exact ⟨ret_int HS.out, HW.out, Kept.refl _ _⟩
  · have HS : Hid _ := sgnd_out n minus c
    go_enter Tryz.func184, Tryz.ntmps184
    go_wp2
    go_ret
    exact ⟨ret_int HS.out, HW.out.set true, (Kept.refl _ _).setCell _⟩

set_option maxHeartbeats 400000 in
theorem rtake_any (b s : Nat) (bad : Bool) (zs : List Int) (w : World) (hw : Fl b bad w) (hz : Ints s zs w) (hlen : zs.length ≤ 3) (hsb : s ≠ b) (hs : s < w.heap.size) :
    Calls Tryz.prog 178 #[.pointer (some ⟨b, 0, none⟩), .slice (some ⟨s, 0, none⟩) zs.length zs.length] w fun e w' => e = .returned (.bool (tk bad zs)) ∧ Fl b (!tk bad zs) w' ∧ Kept b w w' := by
  have HW : Hid _ := hw
  have HZ : Hid _ := hz
  clear hz hw
  go_enter Tryz.func178, Tryz.ntmps178
  go_wp2
  go_loopw [5] (fun v wr => ∃ k : Nat, k ≤ zs.length ∧ v = .int .i64 k ∧ Hid (Fl b (bad || !(zs.take k).all numB) wr) ∧ Hid (Kept b w wr)) (fun v _ => zs.length - (intOf v).toNat)
  case atStart => exact ⟨0, Nat.zero_le _, rfl, by show Fl _ _ _; simpa using HW.out, Kept.refl _ _⟩
  case round =>
    obtain ⟨k, hk, rfl, HF, HK⟩ := hrel
    by_cases hlt : k < zs.length
    · have hcell : wr.cell? ⟨s, k, none⟩ = some (.int .i64 zs[k]) := (HK.out.cell (p := ⟨s, k, none⟩) hs hsb).trans (HZ.out k hlt)
      have HS : Hid _ := all_take_succ hlt
      generalize zs[k] = z at *
      cases c : numB z
      · have HC2 : Hid _ := c
        clear c
        have hf1 := HF.out.cell
        have hf2 := HF.out.free
        go_wp2_with fail
        refine (rnumber_any _ _).mono ?_
        rintro e w1 ⟨rfl, rfl⟩
        rw [HC2.out]
        go_wp2
        refine ⟨⟨k + 1, by omega, by go_num, ?_, HK.out.setCell _⟩, by simp [intOf]; omega⟩
        show Fl _ _ _
        rw [HS.out, HC2.out]
        simpa using HF.out.set true
      · have HC2 : Hid _ := c
        clear c
        go_wp2_with fail
        refine (rnumber_any _ _).mono ?_
        rintro e w1 ⟨rfl, rfl⟩
        rw [HC2.out]
        go_wp2
        refine ⟨⟨k + 1, by omega, by go_num, ?_, HK.out⟩, by simp [intOf]; omega⟩
        show Fl _ _ _
        rw [HS.out, HC2.out]
        simpa using HF.out
    · have hf1 := HF.out.cell
      have HT : Hid (zs.take k = zs) := List.take_of_length_le (by omega)
      rw [HT.out] at hf1
      go_wp2
      go_ret
      have h1 := HF.out
      rw [HT.out, tk_not] at h1
      exact ⟨ret_bool rfl, h1, HK.out⟩

theorem rtake1 (b : Nat) (bad : Bool) (x : Int) (w : World) (hw : Fl b bad w) :
    Calls Tryz.prog 178 #[.pointer (some ⟨b, 0, none⟩), .slice (some ⟨w.heap.size, 0, none⟩) 1 1] (w.alloc (.cells #[.int .i64 x] 2)) fun e w' => e = .returned (.bool (tk bad [x])) ∧ Fl b (!tk bad [x]) w' ∧ Kept b w w' :=
  (rtake_any b w.heap.size bad [x] _ (hw.alloc _) (Ints_one x w) (by simp) (Nat.ne_of_gt hw.lies) (by simp)).mono fun _ _ h => ⟨h.1, h.2.1, (Kept.alloc b w _).trans h.2.2⟩
theorem rtake2 (b : Nat) (bad : Bool) (x y : Int) (w : World) (hw : Fl b bad w) :
    Calls Tryz.prog 178 #[.pointer (some ⟨b, 0, none⟩), .slice (some ⟨w.heap.size, 0, none⟩) 2 2] (w.alloc (.cells #[.int .i64 x, .int .i64 y] 2)) fun e w' => e = .returned (.bool (tk bad [x, y])) ∧ Fl b (!tk bad [x, y]) w' ∧ Kept b w w' :=
  (rtake_any b w.heap.size bad [x, y] _ (hw.alloc _) (Ints_two x y w) (by simp) (Nat.ne_of_gt hw.lies) (by simp)).mono fun _ _ h => ⟨h.1, h.2.1, (Kept.alloc b w _).trans h.2.2⟩
theorem rtake3 (b : Nat) (bad : Bool) (x y z : Int) (w : World) (hw : Fl b bad w) :
    Calls Tryz.prog 178 #[.pointer (some ⟨b, 0, none⟩), .slice (some ⟨w.heap.size, 0, none⟩) 3 3] (w.alloc (.cells #[.int .i64 x, .int .i64 y, .int .i64 z] 2)) fun e w' => e = .returned (.bool (tk bad [x, y, z])) ∧ Fl b (!tk bad [x, y, z]) w' ∧ Kept b w w' :=
  (rtake_any b w.heap.size bad [x, y, z] _ (hw.alloc _) (Ints_three x y z w) (by simp) (Nat.ne_of_gt hw.lies) (by simp)).mono fun _ _ h => ⟨h.1, h.2.1, (Kept.alloc b w _).trans h.2.2⟩
end Go.Proofs.YtoadcnhcfodkgaaGreatDoor
