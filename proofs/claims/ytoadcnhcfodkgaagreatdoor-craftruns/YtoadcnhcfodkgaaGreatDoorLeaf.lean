/-
  The walks of the small functions of package fixed, for the seat YtoadcnhcfodkgaaGreatDoor.
-/
import Derived.Test.YtoadcnhcfodkgaaGreatDoorRows
import Derived.Test.YtoadcnhcfodkgaaGreatDoorMath
import Derived.Test.YtoadcnhcfodkgaaGreatDoorZAl
import Derived.WalkKit
import Derived.WalkSpells
import Derived.WalkLawsBesides
import Derived.Handy
namespace Go.Proofs.YtoadcnhcfodkgaaGreatDoor
open Go.RowKit


theorem ret_bool {a b : Bool} (h : a = b) : Ending.returned (.bool a) = .returned (.bool b) := by rw [h]
theorem ret_int {k : IntKind} {a b : Int} (h : a = b) : Ending.returned (.int k a) = .returned (.int k b) := by rw [h]

set_option maxHeartbeats 400000 in
theorem lowHalf_any (a : Int) (w : World) (_h0 : 0 ≤ a) (_h1 : a ≤ 18446744073709551615) :
    Calls Tryz.prog 265 #[.int .u64 a] w fun e w' => e = .returned (.int .u64 (a % 4294967296)) ∧ w' = w := by
  go_enter Tryz.func265, Tryz.ntmps265
  go_wp2
  go_ret
  exact ⟨rfl, rfl⟩

set_option maxHeartbeats 400000 in
theorem isNumber_any (a : Int) (w : World) :
    Calls Tryz.prog 264 #[.int .i64 a] w fun e w' => e = .returned (.bool (numB a)) ∧ w' = w := by
  go_enter Tryz.func264, Tryz.ntmps264
  go_wp2
  all_goals
    go_ret
    exact ⟨ret_bool (by unfold numB; simp; try omega), rfl⟩

theorem ret_agg2 {k l : IntKind} {a b c d : Int} (h : a = c) (h' : b = d) : Ending.returned (.agg #[.int k a, .int l b]) = .returned (.agg #[.int k c, .int l d]) := by rw [h, h']

set_option maxHeartbeats 400000 in
theorem product_any (a b : Int) (w : World) (h0 : 0 ≤ a) (h1 : a ≤ 18446744073709551615) (k0 : 0 ≤ b) (k1 : b ≤ 18446744073709551615) :
    Calls Tryz.prog 213 #[.int .u64 a, .int .u64 b] w fun e w' => e = .returned (.agg #[.int .u64 (hi64 (a * b)), .int .u64 (lo64 (a * b))]) ∧ Below w.heap.size w w' := by
  have HP : Hid _ := prod_words a b h0 h1 k0 k1
  go_enter Tryz.func213, Tryz.ntmps213
  go_wp2
  go_returns
  exact ⟨ret_agg2 HP.out.1 HP.out.2, by go_grown⟩

set_option maxHeartbeats 400000 in
theorem plus_gen (a b c d : Int) (w : World) (h1 : 0 ≤ a ∧ a ≤ 18446744073709551615) (h2 : 0 ≤ b ∧ b ≤ 18446744073709551615) (h3 : 0 ≤ c ∧ c ≤ 18446744073709551615) (h4 : 0 ≤ d ∧ d ≤ 18446744073709551615)
    (hs : a * 18446744073709551616 + b + (c * 18446744073709551616 + d) ≤ 340282366920938463463374607431768211455) :
    Calls Tryz.prog 225 #[.agg #[.int .u64 a, .int .u64 b], .agg #[.int .u64 c, .int .u64 d]] w fun e w' => e = .returned (.agg #[.int .u64 (hi64 (a * 18446744073709551616 + b + (c * 18446744073709551616 + d))), .int .u64 (lo64 (a * 18446744073709551616 + b + (c * 18446744073709551616 + d)))]) ∧ Below w.heap.size w w' := by
  have HS : Hid _ := hs
  clear hs
  go_enter Tryz.func225, Tryz.ntmps225
  go_wp2
  all_goals
    rename_i hq
    go_returns
    refine ⟨ret_agg2 ?_ ?_, by go_grown⟩ <;> (have hs := HS.out; rw [IntKind.wrap_u64] at hq; simp only [IntKind.wrap_u64]; first | unfold hi64 | unfold lo64); all_goals omega
theorem plus_any (n m : Int) (w : World) (h0 : 0 ≤ n) (k0 : 0 ≤ m) (hs : n + m ≤ 340282366920938463463374607431768211455) :
    Calls Tryz.prog 225 #[.agg #[.int .u64 (hi64 n), .int .u64 (lo64 n)], .agg #[.int .u64 (hi64 m), .int .u64 (lo64 m)]] w fun e w' => e = .returned (.agg #[.int .u64 (hi64 (n + m)), .int .u64 (lo64 (n + m))]) ∧ Below w.heap.size w w' := by
  have e1 := hilo n
  have e2 := hilo m
  have := plus_gen (hi64 n) (lo64 n) (hi64 m) (lo64 m) w (hi64_bd n h0 (by omega)) (lo64_bd n) (hi64_bd m k0 (by omega)) (lo64_bd m) (by omega)
  rw [e1, e2] at this
  exact this
theorem plus_lit (n m : Int) (w : World) (h0 : 0 ≤ n) (k0 : 0 ≤ m) (k1 : m ≤ 18446744073709551615) (hs : n + m ≤ 340282366920938463463374607431768211455) :
    Calls Tryz.prog 225 #[.agg #[.int .u64 (hi64 n), .int .u64 (lo64 n)], .agg #[.int .u64 0, .int .u64 m]] w fun e w' => e = .returned (.agg #[.int .u64 (hi64 (n + m)), .int .u64 (lo64 (n + m))]) ∧ Below w.heap.size w w' := by
  have e1 := hilo n
  have := plus_gen (hi64 n) (lo64 n) 0 m w (hi64_bd n h0 (by omega)) (lo64_bd n) (by omega) (by omega) (by omega)
  rw [e1, show (0 : Int) * 18446744073709551616 + m = m by omega] at this
  exact this

theorem bcell {W w1 : World} (hb : Below W.heap.size W w1) : (∀ b o, b < W.heap.size → w1.cell? ⟨b, o, none⟩ = W.cell? ⟨b, o, none⟩) ∧ (∀ b o, b < W.heap.size → w1.frozen? ⟨b, o, none⟩ = W.frozen? ⟨b, o, none⟩) :=
  ⟨fun b o h => hb.cell (p := ⟨b, o, none⟩) h, fun b o h => hb.frozen (p := ⟨b, o, none⟩) h⟩

set_option maxHeartbeats 400000 in
theorem wabove_any (n m : Int) (w : World) :
    Calls Tryz.prog 269 #[.agg #[.int .u64 (hi64 n), .int .u64 (lo64 n)], .agg #[.int .u64 (hi64 m), .int .u64 (lo64 m)]] w fun e w' => e = .returned (.bool (decide (m < n))) ∧ Below w.heap.size w w' := by
  have b2 := lo64_bd n
  have b4 := lo64_bd m
  have e1 := hilo n
  have e2 := hilo m
  by_cases c1 : hi64 m < hi64 n
  · have HF : Hid (true = decide (m < n)) := by show _ = _; simp; omega
    clear b2 b4 e1 e2
    go_enter Tryz.func269, Tryz.ntmps269
    go_wp2
    go_ret
    exact ⟨ret_bool (by simpa using HF.out), by go_grown⟩
  · by_cases c2 : hi64 n = hi64 m
    · have HF : Hid (decide (lo64 m < lo64 n) = decide (m < n)) := by show _ = _; simp; omega
      have c3 : (hi64 n == hi64 m) = true := by simpa using c2
      clear b2 b4 e1 e2 c2
      go_enter Tryz.func269, Tryz.ntmps269
      go_wp2
      go_ret
      exact ⟨ret_bool HF.out, by go_grown⟩
    · have HF : Hid (false = decide (m < n)) := by show _ = _; simp; omega
      have c3 : (hi64 n == hi64 m) = false := by simpa using c2
      clear b2 b4 e1 e2 c2
      go_enter Tryz.func269, Tryz.ntmps269
      go_wp2
      go_ret
      exact ⟨ret_bool HF.out, by go_grown⟩

set_option maxHeartbeats 400000 in
theorem size_any (a : Int) (w : World) (h : numB a = true) :
    Calls Tryz.prog 214 #[.int .i64 a] w fun e w' => e = .returned (.int .u64 (sz a)) ∧ w' = w := by
  have hb := numB_bd h
  go_enter Tryz.func214, Tryz.ntmps214
  go_wp2
  all_goals
    go_ret
    exact ⟨ret_int (by unfold sz; split <;>  omega), rfl⟩

set_option maxHeartbeats 400000 in
theorem shifted_any (n : Int) (w : World) (h0 : 0 ≤ n) (hs : n ≤ 85070591730234615865843651857942052864) :
    Calls Tryz.prog 216 #[.agg #[.int .u64 (hi64 n), .int .u64 (lo64 n)], .int .u64 40] w fun e w' => e = .returned (.int .u64 (sat64 ((n + 549755813888) / 1099511627776))) ∧ Below w.heap.size w w' := by
  have HB : Hid _ := hi64_bd (n + 549755813888) (by omega) (by omega)
  have HL : Hid _ := lo64_bd (n + 549755813888)
  have HE : Hid _ := hilo (n + 549755813888)
  go_enter Tryz.func216, Tryz.ntmps216
  go_wp2_with fail
  refine (plus_lit n 549755813888 _ h0 (by omega) (by omega) (by omega)).mono ?_
  rintro e w1 ⟨rfl, hb⟩
  obtain ⟨hc, hf⟩ := bcell hb
  have hz : w.heap.size < w1.heap.size := by have := hb.size; simp at this; omega
  have HB' : Hid _ := hb
  clear hb
  generalize hi64 (n + 549755813888) = x at *
  generalize lo64 (n + 549755813888) = y at *
  have b1 := HB.out
  have b2 := HL.out
  have hw : ∀ u v, Below w.heap.size w ((w1.setCell ⟨w.heap.size, 0, none⟩ u).setCell ⟨w.heap.size, 1, none⟩ v) := fun u v => ((((Below.refl _ _).alloc (Nat.le_refl _) _).trans (HB'.out.mono (by simp))).setCell (Nat.le_refl _) _).setCell (Nat.le_refl _) _
  have HW : Hid _ := hw
  clear hw
  by_cases c : x / 1099511627776 = 0
  · have c' : (x / 1099511627776 != 0) = false := by simp [c]
    have HQ : Hid _ := shifted_words n x y HE.out b1 b2 c
    clear c
    go_wp2
    go_ret
    exact ⟨ret_int HQ.out, HW.out _ _⟩
  · have c' : (x / 1099511627776 != 0) = true := by simp [c]
    have HQ : Hid _ := shifted_much n x y HE.out b1 b2 c
    clear c
    go_wp2
    go_ret
    exact ⟨ret_int HQ.out, HW.out _ _⟩
end Go.Proofs.YtoadcnhcfodkgaaGreatDoor
